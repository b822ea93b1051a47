/-
  The references of Plus and Meet on valid ranges, the errors of two ranges, and the law NumberRanges.
-/
import Derived.Test.YtbagmfnedgjndaaDoorRng
namespace Go.Proofs.YtbagmfnedgjndaaDoor
open Go.RowKit

set_option maxHeartbeats 1600000 in
theorem ranges_any (a b c d : Int) (w : World) :
    Calls Tryd.prog 51 #[.agg #[.int .i64 a, .int .i64 b], .agg #[.int .i64 c, .int .i64 d]] w fun e w' => e = .returned (.int .i64 (err2 (chkR a b) (chkR c d))) ∧ Below w.heap.size w w' := by
  by_cases h : chkR a b = 0
  · have h0 : (chkR a b != 0) = false := by simpa using h
    have HH := Lib.hid h; clear h
    go_enter Tryd.func51, Tryd.ntmps51
    go_wp2_with fail
    refine (rchkR_any _ _ _).mono ?_
    rintro e w1 ⟨rfl, h1⟩
    have B1 : Below w.heap.size w w1 := below_via (by go_grown) h1
    have q := (Box.new (w.alloc (.cells #[.int .i64 a, .int .i64 b] 37)) #[.int .i64 c, .int .i64 d] 37 (n := w.heap.size + 1) (by simp)).keep h1
    obtain ⟨q0, q1, _, _⟩ := q.two
    clear q h1
    go_wp2_with fail
    refine (rchkR_any _ _ _).mono ?_
    rintro e w2 ⟨rfl, h2⟩
    have B2 : Below w.heap.size w w2 := below_via (by go_grown) h2
    clear h2
    go_wp2_with fail
    go_ret
    exact ⟨ret_int (by unfold err2; rw [HH.out]; rfl), by assumption⟩
  · have h0 : (chkR a b != 0) = true := by simpa using h
    have HH := Lib.hid h; clear h
    go_enter Tryd.func51, Tryd.ntmps51
    go_wp2_with fail
    refine (rchkR_any _ _ _).mono ?_
    rintro e w1 ⟨rfl, h1⟩
    have B1 : Below w.heap.size w w1 := below_via (by go_grown) h1
    clear h1
    go_wp2_with fail
    go_ret
    exact ⟨ret_int (by unfold err2; rw [if_pos HH.out]), by assumption⟩

def rpE (x y : Int) : Int := if chkR x y ≠ 0 then 8 else 0
def rpV (x y v : Int) : Int := if chkR x y ≠ 0 then 0 else v
set_option maxHeartbeats 1600000 in
theorem rplus_any (a b c d : Int) (w : World) (a0 : -1000000000000000 ≤ a) (a1 : a ≤ 1000000000000000) (b0 : -1000000000000000 ≤ b) (b1 : b ≤ 1000000000000000) (c0 : -1000000000000000 ≤ c) (c1 : c ≤ 1000000000000000) (d0 : -1000000000000000 ≤ d) (d1 : d ≤ 1000000000000000) :
    Calls Tryd.prog 52 #[.agg #[.int .i64 a, .int .i64 b], .agg #[.int .i64 c, .int .i64 d]] w fun e w' =>
      e = .returned (.tuple #[.agg #[.int .i64 (rpV (a + c) (b + d) (a + c)), .int .i64 (rpV (a + c) (b + d) (b + d))], .int .i64 (rpE (a + c) (b + d))]) ∧ Below w.heap.size w w' := by
  by_cases h : chkR (a + c) (b + d) = 0
  all_goals
    first
    | (have h0 : (chkR (a + c) (b + d) != 0) = false := by simpa using h)
    | (have h0 : (chkR (a + c) (b + d) != 0) = true := by simpa using h)
    have HH := Lib.hid h; clear h
    have e1 := rpE (a + c) (b + d)
    go_enter Tryd.func52, Tryd.ntmps52
    go_wp2_with fail
    refine (rchkR_any _ _ _).mono ?_
    rintro e w1 ⟨rfl, h1⟩
    have B1 : Below w.heap.size w w1 := below_via (by go_grown) h1
    have q := (Box.new (((w.alloc (.cells #[.int .i64 a, .int .i64 b] 37)).alloc (.cells #[.int .i64 c, .int .i64 d] 37)).alloc (.cells #[.int .i64 0, .int .i64 0] 37)) #[.int .i64 (a + c), .int .i64 (b + d)] 37 (n := w.heap.size + 1 + 1 + 1) (by simp)).keep h1
    obtain ⟨q0, q1, _, _⟩ := q.two
    have r := ((Box.new ((w.alloc (.cells #[.int .i64 a, .int .i64 b] 37)).alloc (.cells #[.int .i64 c, .int .i64 d] 37)) #[.int .i64 0, .int .i64 0] 37 (n := w.heap.size + 1 + 1) (by simp)).alloc (.cells #[.int .i64 (a + c), .int .i64 (b + d)] 37)).keep h1
    obtain ⟨r0, r1, _, _⟩ := r.two
    clear q r h1
    go_wp2_with fail
    refine bodyPost_ret (v := .tuple #[.agg #[.int .i64 (rpV (a + c) (b + d) (a + c)), .int .i64 (rpV (a + c) (b + d) (b + d))], .int .i64 (rpE (a + c) (b + d))])
      (by simp [results, Tryd.results52, go_sem, r0, r1, rpV, rpE, HH.out]) rfl ⟨rfl, ?_⟩
    go_grown
end Go.Proofs.YtbagmfnedgjndaaDoor
