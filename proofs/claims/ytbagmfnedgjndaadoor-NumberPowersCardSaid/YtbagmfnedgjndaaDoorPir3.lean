/-
  The walk of the reference's valid: a pitch in normal form, or an error.
-/
import Derived.Test.YtbagmfnedgjndaaDoorPir2
namespace Go.Proofs.YtbagmfnedgjndaaDoor
open Go.RowKit

set_option maxRecDepth 100000 in
set_option maxHeartbeats 1600000 in
theorem rvalid_any (a b c d : Int) (w : World) (ha : -1000000000000000000 ≤ a) (ha' : a ≤ 1000000000000000000) (hb : -1000000000000000000 ≤ b) (hb' : b ≤ 1000000000000000000)
    (hc : -1000000000000000000 ≤ c) (hc' : c ≤ 1000000000000000000) (hd : 1 ≤ d) (hd' : d ≤ 1000000000000000000) :
    Calls Tryd.prog 86 #[.agg #[.int .i64 a, .int .i64 b, .int .i64 c, .int .i64 d]] w fun e w' =>
      e = .returned (.tuple #[.agg #[.int .i64 (pX a b c d a), .int .i64 (pX a b c d b), .int .i64 (pX a b c d c), .int .i64 (pX a b c d d)], .int .i64 (pE a b c d)]) ∧ Below w.heap.size w w' := by
  have NO := Lib.hid (fun u : World => rnormal_any a b c d u ha ha' hb hb' hc hc' hd hd')
  have FX := Lib.hid (fun v : Int => show pX a b c d v = if okN a b c d then nrm a b c d v else 0 from rfl)
  have FE := Lib.hid (show pE a b c d = if okN a b c d then 0 else 8 from rfl)
  have FO := Lib.hid (show okP (nrm a b c d a) (nrm a b c d b) (nrm a b c d c) (nrm a b c d d) = okN a b c d from rfl)
  cases hk : okN a b c d
  all_goals
    have IP0 := fun u : World => isPitch_any (nrm a b c d a) (nrm a b c d b) (nrm a b c d c) (nrm a b c d d) u
    rw [FO.out, hk] at IP0
    have IP := Lib.hid IP0
    rw [hk] at FX FE
    clear IP0
    have X0 := Lib.hid (FX.out a); have X1 := Lib.hid (FX.out b); have X2 := Lib.hid (FX.out c); have X3 := Lib.hid (FX.out d)
    clear FX hk
    go_enter Tryd.func86, Tryd.ntmps86
    go_wp2_with fail
    refine (NO.out _).mono ?_
    rintro e w1 ⟨rfl, k1⟩
    have B1 : Below w.heap.size w w1 := below_via (by go_grown) k1
    have z1 := B1.size
    have y1 := k1.size
    try simp at y1
    have A1 := Lib.hid (((Box.new w #[.int .i64 a, .int .i64 b, .int .i64 c, .int .i64 d] 47 rfl).alloc (.cells #[.int .i64 0, .int .i64 0, .int .i64 0, .int .i64 0] 47)).keep k1)
    have R1 := Lib.hid ((Box.new (w.alloc (.cells #[.int .i64 a, .int .i64 b, .int .i64 c, .int .i64 d] 47)) #[.int .i64 0, .int .i64 0, .int .i64 0, .int .i64 0] 47 (n := w.heap.size + 1) (by simp)).keep k1)
    obtain ⟨a0, a1, a2, a3, fa0, fa1, fa2, fa3⟩ := A1.out.four
    have la := A1.out.lt
    clear k1
    go_wp2_with fail
    refine (IP.out _).mono ?_
    rintro e w2 ⟨rfl, k2⟩
    have B2 : Below w.heap.size w w2 := below_via (by go_grown) k2
    have z2 := B2.size
    have y2 := k2.size
    try simp at y2
    have A2 := Lib.hid (Box.keep (show Box _ w.heap.size #[.int .i64 (nrm a b c d a), .int .i64 (nrm a b c d b), .int .i64 (nrm a b c d c), .int .i64 (nrm a b c d d)] 47 from (((A1.out.set 0 _).set 1 _).set 2 _).set 3 _) k2)
    have R2 := Lib.hid (Box.keep (Box.other (Box.other (Box.other (Box.other R1.out ⟨w.heap.size, 0, none⟩ (.int .i64 (nrm a b c d a)) (by simp)) ⟨w.heap.size, 1, none⟩ (.int .i64 (nrm a b c d b)) (by simp)) ⟨w.heap.size, 2, none⟩ (.int .i64 (nrm a b c d c)) (by simp)) ⟨w.heap.size, 3, none⟩ (.int .i64 (nrm a b c d d)) (by simp)) k2)
    clear k2 a0 a1 a2 a3
    obtain ⟨a0, a1, a2, a3, _⟩ := A2.out.four
    obtain ⟨r0, r1, r2, r3, _⟩ := R2.out.four
    go_wp2_with fail
    refine bodyPost_ret (v := .tuple #[.agg #[.int .i64 (pX a b c d a), .int .i64 (pX a b c d b), .int .i64 (pX a b c d c), .int .i64 (pX a b c d d)], .int .i64 (pE a b c d)])
      (by simp [results, Tryd.results86, go_sem, r0, r1, r2, r3, X0.out, X1.out, X2.out, X3.out, FE.out]) rfl ⟨rfl, ?_⟩
    go_grown
end Go.Proofs.YtbagmfnedgjndaaDoor
