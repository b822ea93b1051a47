/-
  The chapter's example of bars: the checks, and the search for a stretch.
-/
import Derived.Test.YtahfliboanphkaaFrc
import Derived.Laws.EntriesVeiled
import Derived.Lib.SmallJoins
namespace Go.Proofs.Ytahfliboanphkaa
open Go.RowKit
set_option maxRecDepth 100000 in
set_option maxHeartbeats 1600000 in
theorem ascent_ex (b : Nat) (w : World) (h : Box w b #[.int .i64 0, .int .i64 100, .int .i64 300] 3) :
    Calls Try.prog 60 #[.slice (some ⟨b, 0, none⟩) 3 3, .int .i64 (-20000), .int .i64 20000] w fun e w' => e = .returned (.int .i64 0) ∧ Below w.heap.size w w' := by
  obtain ⟨c0, c1, c2, -⟩ := h.three
  have e0 : inR 0 (-20000) 20000 = true := by decide
  have e1 : inR 100 (-20000) 20000 = true := by decide
  have e2 : inR 300 (-20000) 20000 = true := by decide
  clear h
  go_enter Try.func60, Try.ntmps60
  go_wp2_with fail
  refine wp_loop_rounds 4 ?_
  iterate 4 (rw [rounds_succ]; go_wp2_with (go_at_call 59; refine (between_any _ _ _ _).mono ?_; rintro e w' ⟨rfl, rfl⟩))
  go_ret
  exact ⟨rfl, by (repeat' (first | (with_reducible exact Below.refl _ _) | (with_reducible assumption) | (with_reducible refine Below.drew ?_) | (with_reducible refine below_drewN ?_ _) | (with_reducible refine Below.setCell ?_ ?_ _) | (with_reducible refine Below.alloc ?_ ?_ _) | go_size | omega))⟩
set_option maxRecDepth 100000 in
set_option maxHeartbeats 1600000 in
theorem chkBars_ex (b : Nat) (w : World) (h : Box w b #[.int .i64 0, .int .i64 100, .int .i64 300] 3) :
    Calls Try.prog 28 #[.slice (some ⟨b, 0, none⟩) 3 3] w fun e w' => e = .returned (.int .i64 0) ∧ Below w.heap.size w w' := by
  have e0 : inR 3 2 20 = true := by decide
  go_enter Try.func28, Try.ntmps28
  go_wp2_with (go_at_call 59; refine (between_any _ _ _ _).mono ?_; rintro e w' ⟨rfl, rfl⟩)
  refine (ascent_ex b _ h).mono ?_
  rintro e w1 ⟨rfl, h1⟩
  go_wp2_with fail
  go_ret
  exact ⟨rfl, h1⟩
set_option maxRecDepth 100000 in
set_option maxHeartbeats 1600000 in
theorem loadsErr_ex (b : Nat) (w : World) (h : Box w b #[.int .i64 50, .int .i64 60, .int .i64 200, .int .i64 90, .int .i64 300, .int .i64 10] 64) :
    Calls Try.prog 54 #[.slice (some ⟨b, 0, none⟩) 3 3, .int .i64 0, .int .i64 300] w fun e w' => e = .returned (.int .i64 0) ∧ Below w.heap.size w w' := by
  have hb := h.lt
  have b1 : b < w.heap.size + 1 := by omega
  have b2 : b < w.heap.size + 1 + 1 := by omega
  have c0 := h.cell 0; have c1 := h.cell 1; have c2 := h.cell 2; have c3 := h.cell 3; have c4 := h.cell 4; have c5 := h.cell 5
  simp at c0 c1 c2 c3 c4 c5
  have e0 : inR 50 0 300 = true := by decide
  have e1 : inR 200 0 300 = true := by decide
  have e2 : inR 300 0 300 = true := by decide
  have d0 : inB 60 1000000 = true := by decide
  have d1 : inB 90 1000000 = true := by decide
  have d2 : inB 10 1000000 = true := by decide
  clear h
  go_enter Try.func54, Try.ntmps54
  go_wp2_with fail
  refine wp_loop_rounds 4 ?_
  iterate 4 (rw [rounds_succ]; go_wp2_with (first | (go_at_call 59; refine (between_any _ _ _ _).mono ?_; rintro e w' ⟨rfl, rfl⟩) | (go_at_call 64; refine (within_any _ _ _ (by omega) (by omega)).mono ?_; rintro e w' ⟨rfl, rfl⟩)))
  go_ret
  exact ⟨rfl, by (repeat' (first | (with_reducible exact Below.refl _ _) | (with_reducible assumption) | (with_reducible refine Below.drew ?_) | (with_reducible refine below_drewN ?_ _) | (with_reducible refine Below.setCell ?_ ?_ _) | (with_reducible refine Below.alloc ?_ ?_ _) | go_size | omega))⟩
def at2 (p q t : Int) : Int := if t ≤ q then (if t ≤ p then 0 else 1) else 2
set_option maxHeartbeats 800000 in
theorem searchC_any (g c2 b o k len cap : Nat) (x t : Int) (w : World) (hg : w.cell? ⟨g, 0, none⟩ = some (.slice (some ⟨b, o, none⟩) len cap)) (hk : k < len) (hlen : len ≤ 1000000)
    (hx : w.cell? ⟨b, o + k, none⟩ = some (.int .i64 x)) (ht : w.cell? ⟨c2, 0, none⟩ = some (.int .i64 t)) :
    Calls Try.prog 99 #[.int .i64 (k : Int), .pointer (some ⟨g, 0, none⟩), .pointer (some ⟨c2, 0, none⟩)] w fun e w' => e = .returned (.bool (decide (t ≤ x))) ∧ Drew w w' := by
  by_cases h : t ≤ x
  all_goals
    go_enter Try.func99, Try.ntmps99
    go_wp2_with fail
    go_quiet (fail)
    go_wp2_with fail
    go_ret
    exact ⟨ret_bool (by simp [h] <;> omega), (Drew.refl w).more _⟩
end Go.Proofs.Ytahfliboanphkaa
