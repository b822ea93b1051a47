/-
  The walks of Normal, sides, the closures of Enclose, Enclose.
-/
import Derived.Test.YtihpkiopeagogaaDoorPit
import Derived.Deep.RegionHeld3
namespace Go.Proofs.YtihpkiopeagogaaDoor
open Go.RowKit

def nX (a b c d x : Int) : Int := if okP a b c d then pX a b c d x else 0
def nE (a b c d : Int) : Int := if okP a b c d then pE a b c d else 2
theorem okP_bd {a b c d : Int} (h : okP a b c d = true) : (1 ≤ d ∧ d ≤ 12) ∧ (-400 ≤ a ∧ a ≤ 400) ∧ (-400 ≤ b ∧ b ≤ 400) ∧ (-400 ≤ c ∧ c ≤ 400) := by
  unfold okP inB at h; simp at h; omega
set_option maxHeartbeats 800000 in
theorem normal_any (a b c d : Int) (w : World) :
    Calls Tryd.prog 14 #[.agg #[.int .i64 a, .int .i64 b, .int .i64 c, .int .i64 d]] w fun e w' =>
      e = .returned (.tuple #[.agg #[.int .i64 (nX a b c d a), .int .i64 (nX a b c d b), .int .i64 (nX a b c d c), .int .i64 (nX a b c d d)], .int .i64 (nE a b c d)]) ∧ Below w.heap.size w w' := by
  cases hk : okP a b c d
  · have hchk : (chkP a b c d != 0) = true := by unfold chkP; rw [hk]; rfl
    have hc2 : chkP a b c d = 2 := by unfold chkP; rw [hk]; rfl
    have HC := Lib.hid hc2; clear hc2
    have HK := Lib.hid hk; clear hk
    go_enter Tryd.func14, Tryd.ntmps14
    go_wp2_with fail
    refine (chkP_any _ _ _ _ _).mono ?_
    rintro e w1 ⟨rfl, h1⟩
    have hB : Below w.heap.size w w1 := below_via (by go_grown) h1
    have hs := h1.size
    simp at hs
    have hR := (Box.new (w.alloc _) _ _ (n := w.heap.size + 1) (by simp)).keep h1
    obtain ⟨r0, r1, r2, r3, s0, s1, s2, s3⟩ := hR.four
    clear hR h1
    go_wp2_with fail
    refine bodyPost_ret (v := .tuple #[.agg #[.int .i64 (nX a b c d a), .int .i64 (nX a b c d b), .int .i64 (nX a b c d c), .int .i64 (nX a b c d d)], .int .i64 (nE a b c d)])
      (by simp [results, Tryd.results14, go_sem, r0, r1, r2, r3, nX, nE, HK.out, HC.out]) rfl ⟨rfl, ?_⟩
    go_grown
  · have hchk : (chkP a b c d != 0) = false := by unfold chkP; rw [hk]; rfl
    have hbd := okP_bd hk
    have HK := Lib.hid hk; clear hk
    go_enter Tryd.func14, Tryd.ntmps14
    go_wp2_with fail
    refine (chkP_any _ _ _ _ _).mono ?_
    rintro e w1 ⟨rfl, h1⟩
    have hB : Below w.heap.size w w1 := below_via (by go_grown) h1
    have hs := h1.size
    simp at hs
    have hA := ((Box.new w _ _ rfl).alloc _).keep h1
    obtain ⟨p0, p1, p2, p3, q0, q1, q2, q3⟩ := hA.four
    have hR := (Box.new (w.alloc _) _ _ (n := w.heap.size + 1) (by simp)).keep h1
    obtain ⟨r0, r1, r2, r3, s0, s1, s2, s3⟩ := hR.four
    have HA := Lib.hid hA; have HR := Lib.hid hR
    clear hR hA h1
    go_wp2_with fail
    go_region_with (first
      | (go_at_call 16; refine (expsOf_any _ _ _ _ _).mono ?_; rintro e w2 ⟨rfl, h2⟩; have hB2 : Below w.heap.size w w2 := below_via (by go_grown) h2; have HA2 := Lib.hid (Box.keep (by exact HA.out) h2); have HR2 := Lib.hid (Box.keep (by exact HR.out) h2); have p3' := HA2.out.cell 3; clear h2)
      | (go_at_call 25; refine (pitchOf_any a b c d _ (by omega) (by omega) (by omega) (by omega) (by omega) (by omega) (by omega) (by omega)).mono ?_; rintro e w3 ⟨rfl, h3⟩; have hB3 : Below w.heap.size w w3 := below_via (by go_grown) h3; obtain ⟨r0, r1, r2, r3, s0, s1, s2, s3⟩ := (Box.keep (by exact HR2.out) h3).four; clear h3))
    all_goals
      go_wp2
      refine bodyPost_ret (v := .tuple #[.agg #[.int .i64 (nX a b c d a), .int .i64 (nX a b c d b), .int .i64 (nX a b c d c), .int .i64 (nX a b c d d)], .int .i64 (nE a b c d)])
        (by simp [results, Tryd.results14, go_sem, r0, r1, r2, r3, nX, nE, HK.out]) rfl ⟨rfl, ?_⟩
      go_grown

end Go.Proofs.YtihpkiopeagogaaDoor
