/-
  Stretches as fractions: width, over, added; fractions compared.
-/
import Derived.Test.YtahfliboanphkaaFrc
import Derived.Test.YtahfliboanphkaaItr
import Derived.Laws.EntriesVeiled
namespace Go.Proofs.Ytahfliboanphkaa
open Go.RowKit
set_option maxHeartbeats 800000 in
theorem width_any (g0 g1 g2 : Int) (a : Option Addr) (len cap : Nat) (w : World) (h0 : -20000 ≤ g0 ∧ g0 ≤ 20000) (h1 : -20000 ≤ g1 ∧ g1 ≤ 20000) :
    Calls Try.prog 65 #[lad g0 g1 g2 (.slice a len cap)] w fun e w' => e = .returned (.int .i64 (g1 - g0)) ∧ Below w.heap.size w w' := by
  obtain ⟨x0, x1⟩ := h0; obtain ⟨y0, y1⟩ := h1
  go_enter Try.func65, Try.ntmps65
  go_wp2_with fail
  go_ret
  exact ⟨rfl, by (repeat' (first | (with_reducible exact Below.refl _ _) | (with_reducible assumption) | (with_reducible refine Below.drew ?_) | (with_reducible refine below_drewN ?_ _) | (with_reducible refine Below.setCell ?_ ?_ _) | (with_reducible refine Below.alloc ?_ ?_ _) | go_size | omega))⟩
set_option maxRecDepth 100000 in
set_option maxHeartbeats 800000 in
theorem over_any (g0 g1 g2 n : Int) (a : Option Addr) (len cap : Nat) (w : World) (h0 : -20000 ≤ g0 ∧ g0 ≤ 20000) (h1 : -20000 ≤ g1 ∧ g1 ≤ 20000) (hlt : g0 < g1) (n0 : -4000000000000000000 ≤ n) (n1 : n ≤ 4000000000000000000) :
    Calls Try.prog 58 #[lad g0 g1 g2 (.slice a len cap), .int .i64 n] w fun e w' => e = .returned (.agg #[.int .i64 (redN n (g1 - g0)), .int .i64 (redD n (g1 - g0))]) ∧ Below w.heap.size w w' := by
  have CW := Lib.hid (fun u => width_any g0 g1 g2 a len cap u h0 h1)
  have CR := Lib.hid (fun u => reduced_any n (g1 - g0) u n0 n1 (by omega) (by omega))
  clear h0 h1 hlt n0 n1
  go_enter Try.func58, Try.ntmps58
  go_wp2_with fail
  refine (CW.out _).mono ?_
  rintro e w1 ⟨rfl, h1⟩
  have B1 : Below w.heap.size w w1 := below_via (by (repeat' (first | (with_reducible exact Below.refl _ _) | (with_reducible assumption) | (with_reducible refine Below.drew ?_) | (with_reducible refine below_drewN ?_ _) | (with_reducible refine Below.setCell ?_ ?_ _) | (with_reducible refine Below.alloc ?_ ?_ _) | go_size | omega))) h1
  have z1 := h1.size
  simp at z1
  have R1 := Lib.hid ((Box.new (w.alloc (.cells #[.int .i64 g0, .int .i64 g1, .int .i64 g2, .slice a len cap] 103)) #[.int .i64 0, .int .i64 0] 63 (n := w.heap.size + 1) (by simp)).keep h1)
  clear h1
  go_wp2_with fail
  refine (CR.out _).mono ?_
  rintro e w2 ⟨rfl, h2⟩
  have B2 : Below w.heap.size w w2 := below_via B1 h2
  have R2 := Lib.hid (R1.out.keep h2)
  clear h2 R1 CW CR
  obtain ⟨r0, r1, f0, f1⟩ := R2.out.two
  have lr := R2.out.lt
  go_wp2_with fail
  clear r0 r1 f0 f1
  have RV : Box ((w2.setCell ⟨w.heap.size + 1, 0, none⟩ (.int .i64 (redN n (g1 - g0)))).setCell ⟨w.heap.size + 1, 1, none⟩ (.int .i64 (redD n (g1 - g0)))) (w.heap.size + 1) #[.int .i64 (redN n (g1 - g0)), .int .i64 (redD n (g1 - g0))] 63 := ((R2.out.set 0 _).set 1 _)
  have BV : Below w.heap.size w ((w2.setCell ⟨w.heap.size + 1, 0, none⟩ (.int .i64 (redN n (g1 - g0)))).setCell ⟨w.heap.size + 1, 1, none⟩ (.int .i64 (redD n (g1 - g0)))) := by (repeat' (first | (with_reducible exact Below.refl _ _) | (with_reducible assumption) | (with_reducible refine Below.drew ?_) | (with_reducible refine below_drewN ?_ _) | (with_reducible refine Below.setCell ?_ ?_ _) | (with_reducible refine Below.alloc ?_ ?_ _) | go_size | omega))
  generalize ((w2.setCell ⟨w.heap.size + 1, 0, none⟩ (.int .i64 (redN n (g1 - g0)))).setCell ⟨w.heap.size + 1, 1, none⟩ (.int .i64 (redD n (g1 - g0)))) = v at *
  have s0 := RV.cell 0
  have s1 := RV.cell 1
  simp at s0 s1
  go_wp2_with fail
  refine bodyPost_ret (v := .agg #[.int .i64 (redN n (g1 - g0)), .int .i64 (redD n (g1 - g0))]) (by simp [results, Try.results58, go_sem, s0, s1]) rfl ⟨rfl, BV⟩
set_option maxRecDepth 100000 in
set_option maxHeartbeats 800000 in
theorem added_any (a b c d : Int) (w : World) (a0 : -1000000000 ≤ a) (a1 : a ≤ 1000000000) (b0 : 1 ≤ b) (b1 : b ≤ 100000) (c0 : -1000000000 ≤ c) (c1 : c ≤ 1000000000) (d0 : 1 ≤ d) (d1 : d ≤ 100000) :
    Calls Try.prog 57 #[.agg #[.int .i64 a, .int .i64 b], .agg #[.int .i64 c, .int .i64 d]] w fun e w' => e = .returned (.agg #[.int .i64 (redN (a * d + c * b) (b * d)), .int .i64 (redD (a * d + c * b) (b * d))]) ∧ Below w.heap.size w w' := by
  obtain ⟨m0, m1⟩ := mul_bd (show -1000000000 ≤ a by omega) a1 (show -100000 ≤ d by omega) d1
  obtain ⟨m2, m3⟩ := mul_bd (show -1000000000 ≤ c by omega) c1 (show -100000 ≤ b by omega) b1
  have m4 : 1 ≤ b * d := by have := Int.mul_le_mul b0 d0 (by omega) (by omega); omega
  obtain ⟨-, m5⟩ := mul_bd (show -100000 ≤ b by omega) b1 (show -100000 ≤ d by omega) d1
  have CR := Lib.hid (fun u => reduced_any (a * d + c * b) (b * d) u (by omega) (by omega) m4 (by omega))
  go_enter Try.func57, Try.ntmps57
  go_wp2_with fail
  refine (CR.out _).mono ?_
  rintro e w2 ⟨rfl, h2⟩
  have B2 : Below w.heap.size w w2 := below_via (by (repeat' (first | (with_reducible exact Below.refl _ _) | (with_reducible assumption) | (with_reducible refine Below.drew ?_) | (with_reducible refine below_drewN ?_ _) | (with_reducible refine Below.setCell ?_ ?_ _) | (with_reducible refine Below.alloc ?_ ?_ _) | go_size | omega))) h2
  have z2 := h2.size
  simp at z2
  have R2 := Lib.hid ((Box.new ((w.alloc (.cells #[.int .i64 a, .int .i64 b] 63)).alloc (.cells #[.int .i64 c, .int .i64 d] 63)) #[.int .i64 0, .int .i64 0] 63 (n := w.heap.size + 1 + 1) (by simp)).keep h2)
  clear h2 CR
  obtain ⟨r0, r1, f0, f1⟩ := R2.out.two
  have lr := R2.out.lt
  go_wp2_with fail
  clear r0 r1 f0 f1
  have RV : Box ((w2.setCell ⟨w.heap.size + 1 + 1, 0, none⟩ (.int .i64 (redN (a * d + c * b) (b * d)))).setCell ⟨w.heap.size + 1 + 1, 1, none⟩ (.int .i64 (redD (a * d + c * b) (b * d)))) (w.heap.size + 1 + 1) #[.int .i64 (redN (a * d + c * b) (b * d)), .int .i64 (redD (a * d + c * b) (b * d))] 63 := ((R2.out.set 0 _).set 1 _)
  have BV : Below w.heap.size w ((w2.setCell ⟨w.heap.size + 1 + 1, 0, none⟩ (.int .i64 (redN (a * d + c * b) (b * d)))).setCell ⟨w.heap.size + 1 + 1, 1, none⟩ (.int .i64 (redD (a * d + c * b) (b * d)))) := by (repeat' (first | (with_reducible exact Below.refl _ _) | (with_reducible assumption) | (with_reducible refine Below.drew ?_) | (with_reducible refine below_drewN ?_ _) | (with_reducible refine Below.setCell ?_ ?_ _) | (with_reducible refine Below.alloc ?_ ?_ _) | go_size | omega))
  generalize ((w2.setCell ⟨w.heap.size + 1 + 1, 0, none⟩ (.int .i64 (redN (a * d + c * b) (b * d)))).setCell ⟨w.heap.size + 1 + 1, 1, none⟩ (.int .i64 (redD (a * d + c * b) (b * d)))) = v at *
  have s0 := RV.cell 0
  have s1 := RV.cell 1
  simp at s0 s1
  go_wp2_with fail
  refine bodyPost_ret (v := .agg #[.int .i64 (redN (a * d + c * b) (b * d)), .int .i64 (redD (a * d + c * b) (b * d))]) (by simp [results, Try.results57, go_sem, s0, s1]) rfl ⟨rfl, BV⟩
set_option maxRecDepth 100000 in
set_option maxHeartbeats 1600000 in
theorem fracs3_ex (x y : Nat) (w : World) (hx : Box w x #[.int .i64 30, .int .i64 1, .int .i64 75, .int .i64 1, .int .i64 55, .int .i64 1] 63) (hy : Box w y #[.int .i64 30, .int .i64 1, .int .i64 75, .int .i64 1, .int .i64 55, .int .i64 1] 63) :
    Calls Try.prog 30 #[.slice (some ⟨x, 0, none⟩) 3 3, .slice (some ⟨y, 0, none⟩) 3 3] w fun e w' => e = .returned (.bool true) ∧ Below w.heap.size w w' := by
  have a0 := hx.cell 0; have a1 := hx.cell 1; have a2 := hx.cell 2; have a3 := hx.cell 3; have a4 := hx.cell 4; have a5 := hx.cell 5
  have b0 := hy.cell 0; have b1 := hy.cell 1; have b2 := hy.cell 2; have b3 := hy.cell 3; have b4 := hy.cell 4; have b5 := hy.cell 5
  simp at a0 a1 a2 a3 a4 a5 b0 b1 b2 b3 b4 b5
  clear hx hy
  go_enter Try.func30, Try.ntmps30
  go_wp2_with fail
  refine wp_loop_rounds 4 ?_
  iterate 3 (rw [rounds_succ]; go_wp2_with fail; go_quiet (fail); go_wp2_with fail)
  rw [rounds_succ]
  go_wp2_with fail
  go_ret
  exact ⟨rfl, by (repeat' (first | (with_reducible exact Below.refl _ _) | (with_reducible assumption) | (with_reducible refine Below.drew ?_) | (with_reducible refine below_drewN ?_ _) | (with_reducible refine Below.setCell ?_ ?_ _) | (with_reducible refine Below.alloc ?_ ?_ _) | go_size | omega))⟩
end Go.Proofs.Ytahfliboanphkaa
