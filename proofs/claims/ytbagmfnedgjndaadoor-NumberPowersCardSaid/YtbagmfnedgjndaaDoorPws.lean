/-
  The walk of Power where its arguments are right.
-/
import Derived.Test.YtbagmfnedgjndaaDoorPwr
namespace Go.Proofs.YtbagmfnedgjndaaDoor
open Go.RowKit

set_option maxRecDepth 100000 in
set_option maxHeartbeats 3200000 in
theorem power_ok (a b c d n m : Int) (w : World) (h : err2 (chkP a b c d) (chkF n m) = 0) :
    Calls Tryd.prog 38 #[.agg #[.int .i64 a, .int .i64 b, .int .i64 c, .int .i64 d], .agg #[.int .i64 n, .int .i64 m]] w fun e w' =>
      e = .returned (.tuple #[.agg #[.int .i64 (pwX a b c d n m (a * n)), .int .i64 (pwX a b c d n m (b * n)), .int .i64 (pwX a b c d n m (c * n)), .int .i64 (pwX a b c d n m (d * m))], .int .i64 (pwE a b c d n m)]) ∧ Below w.heap.size w w' := by
  have h0 : (err2 (chkP a b c d) (chkF n m) != 0) = false := by simpa using h
  have hp : okP a b c d = true := by
    have := (err2_zero h).1; unfold chkP at this; split at this
    · assumption
    · omega
  obtain ⟨⟨d0, d1⟩, ⟨a0, a1⟩, ⟨b0, b1⟩, c0, c1⟩ := okP_bd hp
  obtain ⟨m0, m1, n0, n1, _⟩ := chkF_ok (err2_zero h).2
  obtain ⟨x0, x1⟩ := mulM_bd (n := a) (t := n) (by omega) (by omega) n0 n1
  obtain ⟨x2, x3⟩ := mulM_bd (n := b) (t := n) (by omega) (by omega) n0 n1
  obtain ⟨x4, x5⟩ := mulM_bd (n := c) (t := n) (by omega) (by omega) n0 n1
  obtain ⟨x6, x7⟩ := mulP_bd (n := d) (t := m) (by omega) (by omega) m0 m1
  have FX := Lib.hid (fun x : Int => show pwX a b c d n m x = pX (a * n) (b * n) (c * n) (d * m) x by unfold pwX; rw [if_neg (by omega)])
  have FE := Lib.hid (show pwE a b c d n m = pE (a * n) (b * n) (c * n) (d * m) by unfold pwE; rw [if_neg (by omega)])
  have hn0 : -9223372036854775808 ≤ n := by omega
  have hn1 : n ≤ 9223372036854775807 := by omega
  have hm0 : -9223372036854775808 ≤ m := by omega
  have hm1 : m ≤ 9223372036854775807 := by omega
  have PO := Lib.hid (fun u : World => pitchOf_any (a * n) (b * n) (c * n) (d * m) u x0 x1 x2 x3 x4 x5 x6 x7)
  clear h hp
  go_enter Tryd.func38, Tryd.ntmps38
  go_wp2_with fail
  have BA := (Box.new w #[.int .i64 a, .int .i64 b, .int .i64 c, .int .i64 d] 47 rfl).alloc (.cells #[.int .i64 n, .int .i64 m] 23) |>.alloc (.cells #[.int .i64 0, .int .i64 0, .int .i64 0, .int .i64 0] 47)
  have BB := (Box.new (w.alloc (.cells #[.int .i64 a, .int .i64 b, .int .i64 c, .int .i64 d] 47)) #[.int .i64 n, .int .i64 m] 23 (n := w.heap.size + 1) (by simp)).alloc (.cells #[.int .i64 0, .int .i64 0, .int .i64 0, .int .i64 0] 47)
  have BR := Box.new ((w.alloc (.cells #[.int .i64 a, .int .i64 b, .int .i64 c, .int .i64 d] 47)).alloc (.cells #[.int .i64 n, .int .i64 m] 23)) #[.int .i64 0, .int .i64 0, .int .i64 0, .int .i64 0] 47 (n := w.heap.size + 1 + 1) (by simp)
  have BW : Below w.heap.size w (((w.alloc (.cells #[.int .i64 a, .int .i64 b, .int .i64 c, .int .i64 d] 47)).alloc (.cells #[.int .i64 n, .int .i64 m] 23)).alloc (.cells #[.int .i64 0, .int .i64 0, .int .i64 0, .int .i64 0] 47)) := by go_grown
  generalize (((w.alloc (.cells #[.int .i64 a, .int .i64 b, .int .i64 c, .int .i64 d] 47)).alloc (.cells #[.int .i64 n, .int .i64 m] 23)).alloc (.cells #[.int .i64 0, .int .i64 0, .int .i64 0, .int .i64 0] 47)) = u at *
  have la := BA.lt
  have lb := BB.lt
  have HBA := Lib.hid BA
  have HBB := Lib.hid BB
  have lr := BR.lt
  have HBR := Lib.hid BR
  clear BR
  clear BA BB
  have K := Lib.hid (fun (w' : World) (hw : Below u.heap.size u w') => show w'.cell? ⟨w.heap.size, 0, none⟩ = some (.int .i64 a) ∧ w'.cell? ⟨w.heap.size, 1, none⟩ = some (.int .i64 b) ∧ w'.cell? ⟨w.heap.size, 2, none⟩ = some (.int .i64 c) ∧ w'.cell? ⟨w.heap.size, 3, none⟩ = some (.int .i64 d) ∧ w'.cell? ⟨w.heap.size + 1, 0, none⟩ = some (.int .i64 n) ∧ w'.cell? ⟨w.heap.size + 1, 1, none⟩ = some (.int .i64 m) from ⟨(HBA.out.keep hw).cell 0, (HBA.out.keep hw).cell 1, (HBA.out.keep hw).cell 2, (HBA.out.keep hw).cell 3, (HBB.out.keep hw).cell 0, (HBB.out.keep hw).cell 1⟩)
  go_region_held3 (fun w' => w'.cell? ⟨w.heap.size, 0, none⟩ = some (.int .i64 a) ∧ w'.cell? ⟨w.heap.size, 1, none⟩ = some (.int .i64 b) ∧ w'.cell? ⟨w.heap.size, 2, none⟩ = some (.int .i64 c) ∧ w'.cell? ⟨w.heap.size, 3, none⟩ = some (.int .i64 d) ∧ w'.cell? ⟨w.heap.size + 1, 0, none⟩ = some (.int .i64 n) ∧ w'.cell? ⟨w.heap.size + 1, 1, none⟩ = some (.int .i64 m))
    ((refine K.out _ ?_; go_grown; done))
    (first | (go_at_call 35; refine (chkP_any _ _ _ _ _).mono ?_; rintro e w9 ⟨rfl, h9⟩; have hB9 : Below u.heap.size u w9 := below_via (by go_grown) h9; clear h9; have hz9 := hB9.size; obtain ⟨k0, k1, k2, k3, k4, k5⟩ := K.out w9 hB9) | (go_at_call 20; refine (chkF_any _ _ _ (by assumption) (by assumption) (by assumption) (by assumption)).mono ?_; rintro e w9 ⟨rfl, h9⟩; have hB9 : Below u.heap.size u w9 := below_via (by go_grown) h9; clear h9; have hz9 := hB9.size; obtain ⟨k0, k1, k2, k3, k4, k5⟩ := K.out w9 hB9) | (go_at_call 67; refine (ferr2_any w9.heap.size (chkP a b c d) (chkF n m) (w9.alloc (.cells #[.int .i64 (chkP a b c d), .int .i64 (chkF n m)] 25)) (World.cell?_alloc_at _ _ _ 0 rfl) (World.cell?_alloc_at _ _ _ 1 rfl)).mono ?_; rintro e w8 ⟨rfl, rfl⟩))
  all_goals
    have hBv : Below u.heap.size u (w9.alloc (.cells #[.int .i64 (chkP a b c d), .int .i64 (chkF n m)] 25)) := by go_grown
    have BV : Below w.heap.size w (w9.alloc (.cells #[.int .i64 (chkP a b c d), .int .i64 (chkF n m)] 25)) := below_via BW hBv
    generalize w9.alloc (.cells #[.int .i64 (chkP a b c d), .int .i64 (chkF n m)] 25) = v at *
    clear hB9 hz9 k0 k1 k2 k3 k4 k5
    have zv := hBv.size
    obtain ⟨k0, k1, k2, k3, k4, k5⟩ := K.out v hBv
    have HRV := Lib.hid (HBR.out.keep hBv)
    have r0 := HRV.out.cell 0
    have f0 := HRV.out.free 0
    have r1 := HRV.out.cell 1
    have f1 := HRV.out.free 1
    have r2 := HRV.out.cell 2
    have f2 := HRV.out.free 2
    have r3 := HRV.out.cell 3
    have f3 := HRV.out.free 3
    simp at r0 r1 r2 r3
    go_wp2_with (go_at_call 83; refine (expsOf_any _ _ _ _ _).mono ?_; rintro e w3 ⟨rfl, q3⟩; have hB3 : Below w.heap.size w w3 := below_via (by go_grown) q3; have z3 := hB3.size; have y3 := q3.size)
    have HA3 := Lib.hid (((HBA.out.keep hBv).keep q3).alloc (.cells #[.int .i64 a, .int .i64 b, .int .i64 c] 119))
    have HB3 := Lib.hid (((HBB.out.keep hBv).keep q3).alloc (.cells #[.int .i64 a, .int .i64 b, .int .i64 c] 119))
    have HR3 := Lib.hid ((HRV.out.keep q3).alloc (.cells #[.int .i64 a, .int .i64 b, .int .i64 c] 119))
    have HE3 := Lib.hid (Box.new w3 #[.int .i64 a, .int .i64 b, .int .i64 c] 119 rfl)
    have BT : Below w.heap.size w (w3.alloc (.cells #[.int .i64 a, .int .i64 b, .int .i64 c] 119)) := by go_grown
    have le3 : v.heap.size ≤ w3.heap.size := y3
    have lrr := HRV.out.lt
    clear q3 y3
    generalize w3.alloc (.cells #[.int .i64 a, .int .i64 b, .int .i64 c] 119) = t at *
    have lt3 := HE3.out.lt
    have lta := HA3.out.lt
    have ltb := HB3.out.lt
    have ltr := HR3.out.lt
    clear r0 r1 r2 r3 f0 f1 f2 f3 k0 k1 k2 k3 k4 k5
    obtain ⟨k0, k1, k2, k3, _⟩ := HA3.out.four
    obtain ⟨k4, k5, _⟩ := HB3.out.two
    obtain ⟨r0, r1, r2, r3, f0, f1, f2, f3⟩ := HR3.out.four
    obtain ⟨e0, e1, e2, g0, g1, g2⟩ := HE3.out.three
    have wra : IntKind.i64.wrap (a * n) = a * n := IntWalk.i64_in _ (by omega)
    have wrb : IntKind.i64.wrap (b * n) = b * n := IntWalk.i64_in _ (by omega)
    have wrc : IntKind.i64.wrap (c * n) = c * n := IntWalk.i64_in _ (by omega)
    refine wp_loop_rounds 4 ?_
    iterate 2 (rw [rounds_succ]; go_wp2_with fail; go_region; go_wp2_with fail)
    rw [rounds_succ]
    go_wp2_with fail
    go_region
    have HA4 := Lib.hid (Box.drew (Box.drew (Box.drew (Box.other (Box.other (Box.other HA3.out ⟨w3.heap.size, 0, none⟩ (.int .i64 (a * n)) (by simp; omega)) ⟨w3.heap.size, 1, none⟩ (.int .i64 (b * n)) (by simp; omega)) ⟨w3.heap.size, 2, none⟩ (.int .i64 (c * n)) (by simp; omega)))))
    have HB4 := Lib.hid (Box.drew (Box.drew (Box.drew (Box.other (Box.other (Box.other HB3.out ⟨w3.heap.size, 0, none⟩ (.int .i64 (a * n)) (by simp; omega)) ⟨w3.heap.size, 1, none⟩ (.int .i64 (b * n)) (by simp; omega)) ⟨w3.heap.size, 2, none⟩ (.int .i64 (c * n)) (by simp; omega)))))
    have HR4 := Lib.hid (Box.drew (Box.drew (Box.drew (Box.other (Box.other (Box.other HR3.out ⟨w3.heap.size, 0, none⟩ (.int .i64 (a * n)) (by simp; omega)) ⟨w3.heap.size, 1, none⟩ (.int .i64 (b * n)) (by simp; omega)) ⟨w3.heap.size, 2, none⟩ (.int .i64 (c * n)) (by simp; omega)))))
    have HE4 := Lib.hid (show Box ((((t.setCell ⟨w3.heap.size, 0, none⟩ (.int .i64 (a * n))).setCell ⟨w3.heap.size, 1, none⟩ (.int .i64 (b * n))).setCell ⟨w3.heap.size, 2, none⟩ (.int .i64 (c * n))).drew.drew.drew) w3.heap.size #[.int .i64 (a * n), .int .i64 (b * n), .int .i64 (c * n)] 119 from Box.drew (Box.drew (Box.drew (Box.set (Box.set (Box.set HE3.out 0 (.int .i64 (a * n))) 1 (.int .i64 (b * n))) 2 (.int .i64 (c * n))))))
    have BT4 : Below w.heap.size w ((((t.setCell ⟨w3.heap.size, 0, none⟩ (.int .i64 (a * n))).setCell ⟨w3.heap.size, 1, none⟩ (.int .i64 (b * n))).setCell ⟨w3.heap.size, 2, none⟩ (.int .i64 (c * n))).drew.drew.drew) := by
      repeat' (first | (with_reducible exact Below.refl _ _) | (with_reducible assumption) | (with_reducible refine Below.drew ?_) | (with_reducible refine Below.setCell ?_ ?_ _) | go_size)
    generalize ((((t.setCell ⟨w3.heap.size, 0, none⟩ (.int .i64 (a * n))).setCell ⟨w3.heap.size, 1, none⟩ (.int .i64 (b * n))).setCell ⟨w3.heap.size, 2, none⟩ (.int .i64 (c * n))).drew.drew.drew) = t4 at *
    clear r0 r1 r2 r3 f0 f1 f2 f3 k0 k1 k2 k3 k4 k5 e0 e1 e2 g0 g1 g2 lt3 lta ltb ltr
    have lt3 := HE4.out.lt
    have lta := HA4.out.lt
    have ltb := HB4.out.lt
    have ltr := HR4.out.lt
    obtain ⟨k0, k1, k2, k3, _⟩ := HA4.out.four
    obtain ⟨k4, k5, _⟩ := HB4.out.two
    obtain ⟨r0, r1, r2, r3, f0, f1, f2, f3⟩ := HR4.out.four
    obtain ⟨e0, e1, e2, g0, g1, g2⟩ := HE4.out.three
    have wrd : IntKind.i64.wrap (d * m) = d * m := IntWalk.i64_in _ (by omega)
    go_wp2_with fail
    rw [rounds_succ]
    go_wp2_with fail
    refine (PO.out _).mono ?_
    rintro e w7 ⟨rfl, h7⟩
    have B7 : Below w.heap.size w w7 := below_via (by go_grown) h7
    have z7 := B7.size
    have y7 := h7.size
    have HR7 := Lib.hid (HR4.out.keep h7)
    clear h7 r0 r1 r2 r3 f0 f1 f2 f3 k0 k1 k2 k3 k4 k5 e0 e1 e2 g0 g1 g2
    have ltr := HR7.out.lt
    obtain ⟨r0, r1, r2, r3, f0, f1, f2, f3⟩ := HR7.out.four
    go_wp2_with fail
    refine bodyPost_ret (v := .tuple #[.agg #[.int .i64 (pwX a b c d n m (a * n)), .int .i64 (pwX a b c d n m (b * n)), .int .i64 (pwX a b c d n m (c * n)), .int .i64 (pwX a b c d n m (d * m))], .int .i64 (pwE a b c d n m)])
      (by simp [results, Tryd.results38, go_sem, r0, r1, r2, r3, FX.out, FE.out]) rfl ⟨rfl, ?_⟩
    go_grown
theorem power_any (a b c d n m : Int) (w : World) (hn0 : -9223372036854775808 ≤ n) (hn1 : n ≤ 9223372036854775807) (hm0 : -9223372036854775808 ≤ m) (hm1 : m ≤ 9223372036854775807) :
    Calls Tryd.prog 38 #[.agg #[.int .i64 a, .int .i64 b, .int .i64 c, .int .i64 d], .agg #[.int .i64 n, .int .i64 m]] w fun e w' =>
      e = .returned (.tuple #[.agg #[.int .i64 (pwX a b c d n m (a * n)), .int .i64 (pwX a b c d n m (b * n)), .int .i64 (pwX a b c d n m (c * n)), .int .i64 (pwX a b c d n m (d * m))], .int .i64 (pwE a b c d n m)]) ∧ Below w.heap.size w w' := by
  by_cases h : err2 (chkP a b c d) (chkF n m) = 0
  · exact power_ok a b c d n m w h
  · exact power_bad a b c d n m w hn0 hn1 hm0 hm1 h
end Go.Proofs.YtbagmfnedgjndaaDoor
