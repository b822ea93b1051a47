/-
  The reference of Meet on valid ranges.
-/
import Derived.Test.YtcojcfjagneecaaDoorRng2
import Derived.Test.YtcojcfjagneecaaDoorRng3
namespace Go.Proofs.YtcojcfjagneecaaDoor
open Go.RowKit

set_option maxHeartbeats 1600000 in
theorem rmeet_ok1 (a b c d : Int) (w : World) (hm1 : a < c) (hm2 : b ≤ d) (h : err2 (chkR a b) (chkR c d) = 0) (hs : ¬ b < c) :
    Calls Tryd.prog 53 #[.agg #[.int .i64 a, .int .i64 b], .agg #[.int .i64 c, .int .i64 d]] w fun e w' =>
      e = .returned (.tuple #[.agg #[.int .i64 (meL a b c d), .int .i64 (meH a b c d)], .int .i64 (meE a b c d)]) ∧ Below w.heap.size w w' := by
  obtain ⟨⟨x0, x1⟩, ⟨x2, x3⟩, _⟩ := chkR_bd (err2_zero h).1
  obtain ⟨⟨y0, y1⟩, ⟨y2, y3⟩, _⟩ := chkR_bd (err2_zero h).2
  have f3 : meE a b c d = 0 := by unfold meE; rw [if_neg (by omega), if_neg (by omega)]
  have F1 := Lib.hid (show meL a b c d = c by unfold meL; rw [f3]; simp; try omega)
  have F2 := Lib.hid (show meH a b c d = b by unfold meH; rw [f3]; simp; try omega)
  have F3 := Lib.hid f3
  clear f3 h
  go_enter Tryd.func53, Tryd.ntmps53
  go_wp2_with fail
  refine bodyPost_ret (v := .tuple #[.agg #[.int .i64 (meL a b c d), .int .i64 (meH a b c d)], .int .i64 (meE a b c d)])
    (by simp [results, Tryd.results53, go_sem, F1.out, F2.out, F3.out]) rfl ⟨rfl, ?_⟩
  go_grown
set_option maxHeartbeats 1600000 in
theorem rmeet_no1 (a b c d : Int) (w : World) (hm1 : a < c) (hm2 : b ≤ d) (h : err2 (chkR a b) (chkR c d) = 0) (hs : b < c) :
    Calls Tryd.prog 53 #[.agg #[.int .i64 a, .int .i64 b], .agg #[.int .i64 c, .int .i64 d]] w fun e w' =>
      e = .returned (.tuple #[.agg #[.int .i64 (meL a b c d), .int .i64 (meH a b c d)], .int .i64 (meE a b c d)]) ∧ Below w.heap.size w w' := by
  obtain ⟨⟨x0, x1⟩, ⟨x2, x3⟩, _⟩ := chkR_bd (err2_zero h).1
  obtain ⟨⟨y0, y1⟩, ⟨y2, y3⟩, _⟩ := chkR_bd (err2_zero h).2
  have f3 : meE a b c d = 12 := by unfold meE; rw [if_neg (by omega), if_pos (by omega)]
  have F1 := Lib.hid (show meL a b c d = 0 by unfold meL; rw [f3]; rfl)
  have F2 := Lib.hid (show meH a b c d = 0 by unfold meH; rw [f3]; rfl)
  have F3 := Lib.hid f3
  clear f3 h
  go_enter Tryd.func53, Tryd.ntmps53
  go_wp2_with fail
  refine bodyPost_ret (v := .tuple #[.agg #[.int .i64 (meL a b c d), .int .i64 (meH a b c d)], .int .i64 (meE a b c d)])
    (by simp [results, Tryd.results53, go_sem, F1.out, F2.out, F3.out]) rfl ⟨rfl, ?_⟩
  go_grown
set_option maxHeartbeats 1600000 in
theorem rmeet_ok2 (a b c d : Int) (w : World) (hm1 : a < c) (hm2 : d < b) (h : err2 (chkR a b) (chkR c d) = 0) (hs : ¬ d < c) :
    Calls Tryd.prog 53 #[.agg #[.int .i64 a, .int .i64 b], .agg #[.int .i64 c, .int .i64 d]] w fun e w' =>
      e = .returned (.tuple #[.agg #[.int .i64 (meL a b c d), .int .i64 (meH a b c d)], .int .i64 (meE a b c d)]) ∧ Below w.heap.size w w' := by
  obtain ⟨⟨x0, x1⟩, ⟨x2, x3⟩, _⟩ := chkR_bd (err2_zero h).1
  obtain ⟨⟨y0, y1⟩, ⟨y2, y3⟩, _⟩ := chkR_bd (err2_zero h).2
  have f3 : meE a b c d = 0 := by unfold meE; rw [if_neg (by omega), if_neg (by omega)]
  have F1 := Lib.hid (show meL a b c d = c by unfold meL; rw [f3]; simp; try omega)
  have F2 := Lib.hid (show meH a b c d = d by unfold meH; rw [f3]; simp; try omega)
  have F3 := Lib.hid f3
  clear f3 h
  go_enter Tryd.func53, Tryd.ntmps53
  go_wp2_with fail
  refine bodyPost_ret (v := .tuple #[.agg #[.int .i64 (meL a b c d), .int .i64 (meH a b c d)], .int .i64 (meE a b c d)])
    (by simp [results, Tryd.results53, go_sem, F1.out, F2.out, F3.out]) rfl ⟨rfl, ?_⟩
  go_grown
set_option maxHeartbeats 1600000 in
theorem rmeet_no2 (a b c d : Int) (w : World) (hm1 : a < c) (hm2 : d < b) (h : err2 (chkR a b) (chkR c d) = 0) (hs : d < c) :
    Calls Tryd.prog 53 #[.agg #[.int .i64 a, .int .i64 b], .agg #[.int .i64 c, .int .i64 d]] w fun e w' =>
      e = .returned (.tuple #[.agg #[.int .i64 (meL a b c d), .int .i64 (meH a b c d)], .int .i64 (meE a b c d)]) ∧ Below w.heap.size w w' := by
  have p1 := chkR_bd (err2_zero h).1
  have p2 := chkR_bd (err2_zero h).2
  exact absurd hs (by omega)
set_option maxHeartbeats 1600000 in
theorem rmeet_ok3 (a b c d : Int) (w : World) (hm1 : c ≤ a) (hm2 : b ≤ d) (h : err2 (chkR a b) (chkR c d) = 0) (hs : ¬ b < a) :
    Calls Tryd.prog 53 #[.agg #[.int .i64 a, .int .i64 b], .agg #[.int .i64 c, .int .i64 d]] w fun e w' =>
      e = .returned (.tuple #[.agg #[.int .i64 (meL a b c d), .int .i64 (meH a b c d)], .int .i64 (meE a b c d)]) ∧ Below w.heap.size w w' := by
  obtain ⟨⟨x0, x1⟩, ⟨x2, x3⟩, _⟩ := chkR_bd (err2_zero h).1
  obtain ⟨⟨y0, y1⟩, ⟨y2, y3⟩, _⟩ := chkR_bd (err2_zero h).2
  have f3 : meE a b c d = 0 := by unfold meE; rw [if_neg (by omega), if_neg (by omega)]
  have F1 := Lib.hid (show meL a b c d = a by unfold meL; rw [f3]; simp; try omega)
  have F2 := Lib.hid (show meH a b c d = b by unfold meH; rw [f3]; simp; try omega)
  have F3 := Lib.hid f3
  clear f3 h
  go_enter Tryd.func53, Tryd.ntmps53
  go_wp2_with fail
  refine bodyPost_ret (v := .tuple #[.agg #[.int .i64 (meL a b c d), .int .i64 (meH a b c d)], .int .i64 (meE a b c d)])
    (by simp [results, Tryd.results53, go_sem, F1.out, F2.out, F3.out]) rfl ⟨rfl, ?_⟩
  go_grown
set_option maxHeartbeats 1600000 in
theorem rmeet_no3 (a b c d : Int) (w : World) (hm1 : c ≤ a) (hm2 : b ≤ d) (h : err2 (chkR a b) (chkR c d) = 0) (hs : b < a) :
    Calls Tryd.prog 53 #[.agg #[.int .i64 a, .int .i64 b], .agg #[.int .i64 c, .int .i64 d]] w fun e w' =>
      e = .returned (.tuple #[.agg #[.int .i64 (meL a b c d), .int .i64 (meH a b c d)], .int .i64 (meE a b c d)]) ∧ Below w.heap.size w w' := by
  have p1 := chkR_bd (err2_zero h).1
  have p2 := chkR_bd (err2_zero h).2
  exact absurd hs (by omega)
set_option maxHeartbeats 1600000 in
theorem rmeet_ok4 (a b c d : Int) (w : World) (hm1 : c ≤ a) (hm2 : d < b) (h : err2 (chkR a b) (chkR c d) = 0) (hs : ¬ d < a) :
    Calls Tryd.prog 53 #[.agg #[.int .i64 a, .int .i64 b], .agg #[.int .i64 c, .int .i64 d]] w fun e w' =>
      e = .returned (.tuple #[.agg #[.int .i64 (meL a b c d), .int .i64 (meH a b c d)], .int .i64 (meE a b c d)]) ∧ Below w.heap.size w w' := by
  obtain ⟨⟨x0, x1⟩, ⟨x2, x3⟩, _⟩ := chkR_bd (err2_zero h).1
  obtain ⟨⟨y0, y1⟩, ⟨y2, y3⟩, _⟩ := chkR_bd (err2_zero h).2
  have f3 : meE a b c d = 0 := by unfold meE; rw [if_neg (by omega), if_neg (by omega)]
  have F1 := Lib.hid (show meL a b c d = a by unfold meL; rw [f3]; simp; try omega)
  have F2 := Lib.hid (show meH a b c d = d by unfold meH; rw [f3]; simp; try omega)
  have F3 := Lib.hid f3
  clear f3 h
  go_enter Tryd.func53, Tryd.ntmps53
  go_wp2_with fail
  refine bodyPost_ret (v := .tuple #[.agg #[.int .i64 (meL a b c d), .int .i64 (meH a b c d)], .int .i64 (meE a b c d)])
    (by simp [results, Tryd.results53, go_sem, F1.out, F2.out, F3.out]) rfl ⟨rfl, ?_⟩
  go_grown
set_option maxHeartbeats 1600000 in
theorem rmeet_no4 (a b c d : Int) (w : World) (hm1 : c ≤ a) (hm2 : d < b) (h : err2 (chkR a b) (chkR c d) = 0) (hs : d < a) :
    Calls Tryd.prog 53 #[.agg #[.int .i64 a, .int .i64 b], .agg #[.int .i64 c, .int .i64 d]] w fun e w' =>
      e = .returned (.tuple #[.agg #[.int .i64 (meL a b c d), .int .i64 (meH a b c d)], .int .i64 (meE a b c d)]) ∧ Below w.heap.size w w' := by
  obtain ⟨⟨x0, x1⟩, ⟨x2, x3⟩, _⟩ := chkR_bd (err2_zero h).1
  obtain ⟨⟨y0, y1⟩, ⟨y2, y3⟩, _⟩ := chkR_bd (err2_zero h).2
  have f3 : meE a b c d = 12 := by unfold meE; rw [if_neg (by omega), if_pos (by omega)]
  have F1 := Lib.hid (show meL a b c d = 0 by unfold meL; rw [f3]; rfl)
  have F2 := Lib.hid (show meH a b c d = 0 by unfold meH; rw [f3]; rfl)
  have F3 := Lib.hid f3
  clear f3 h
  go_enter Tryd.func53, Tryd.ntmps53
  go_wp2_with fail
  refine bodyPost_ret (v := .tuple #[.agg #[.int .i64 (meL a b c d), .int .i64 (meH a b c d)], .int .i64 (meE a b c d)])
    (by simp [results, Tryd.results53, go_sem, F1.out, F2.out, F3.out]) rfl ⟨rfl, ?_⟩
  go_grown
theorem rmeet_any (a b c d : Int) (w : World) (h : err2 (chkR a b) (chkR c d) = 0) :
    Calls Tryd.prog 53 #[.agg #[.int .i64 a, .int .i64 b], .agg #[.int .i64 c, .int .i64 d]] w fun e w' =>
      e = .returned (.tuple #[.agg #[.int .i64 (meL a b c d), .int .i64 (meH a b c d)], .int .i64 (meE a b c d)]) ∧ Below w.heap.size w w' := by
  rcases Int.lt_or_le a c with p | p <;> rcases Int.lt_or_le d b with q | q
  · by_cases hs : d < c
    · exact rmeet_no2 a b c d w p q h hs
    · exact rmeet_ok2 a b c d w p q h hs
  · by_cases hs : b < c
    · exact rmeet_no1 a b c d w p q h hs
    · exact rmeet_ok1 a b c d w p q h hs
  · by_cases hs : d < a
    · exact rmeet_no4 a b c d w p q h hs
    · exact rmeet_ok4 a b c d w p q h hs
  · by_cases hs : b < a
    · exact rmeet_no3 a b c d w p q h hs
    · exact rmeet_ok3 a b c d w p q h hs
end Go.Proofs.YtcojcfjagneecaaDoor
