/-
  The walks of checkDots at the document's example, of worse.
-/
import Derived.Test.YtbagmfnedgjndaaDoorLin2
namespace Go.Proofs.YtbagmfnedgjndaaDoor
open Go.RowKit

def worseB (h1 w1 h2 w2 : Int) : Bool := decide (max h2 (-h2) * w1 < max h1 (-h1) * w2)
set_option maxRecDepth 100000 in
set_option maxHeartbeats 800000 in
theorem worse_any (b off n cap i j k i' j' k' : Nat) (h1 w1 h2 w2 : Int) (w : World)
    (H1 : Hid (∀ u, Below w.heap.size w u → Calls Tryd.prog 119 #[.slice (some ⟨b, off, none⟩) n cap, .agg #[.int .i64 (i : Int), .int .i64 (j : Int), .int .i64 (k : Int)]] u fun e w' => e = .returned (.tuple #[.int .i64 h1, .int .i64 w1]) ∧ Below u.heap.size u w'))
    (H2 : Hid (∀ u, Below w.heap.size w u → Calls Tryd.prog 119 #[.slice (some ⟨b, off, none⟩) n cap, .agg #[.int .i64 (i' : Int), .int .i64 (j' : Int), .int .i64 (k' : Int)]] u fun e w' => e = .returned (.tuple #[.int .i64 h2, .int .i64 w2]) ∧ Below u.heap.size u w'))
    (a0 : -800000000 ≤ h1) (a1 : h1 ≤ 800000000) (b0 : -800000000 ≤ h2) (b1 : h2 ≤ 800000000) (c0 : 0 ≤ w1) (c1 : w1 ≤ 20000) (d0 : 0 ≤ w2) (d1 : w2 ≤ 20000) :
    Calls Tryd.prog 108 #[.slice (some ⟨b, off, none⟩) n cap, .agg #[.int .i64 (i : Int), .int .i64 (j : Int), .int .i64 (k : Int)], .agg #[.int .i64 (i' : Int), .int .i64 (j' : Int), .int .i64 (k' : Int)]] w fun e w' =>
      e = .returned (.bool (worseB h1 w1 h2 w2)) ∧ Below w.heap.size w w' := by
  have m1 : 0 ≤ max h1 (-h1) ∧ max h1 (-h1) ≤ 800000000 := by omega
  have m2 : 0 ≤ max h2 (-h2) ∧ max h2 (-h2) ≤ 800000000 := by omega
  have p1 := mul_bd (A := 800000000) (B := 20000) (a := max h1 (-h1)) (b := w2) (by omega) (by omega) (by omega) (by omega)
  have p2 := mul_bd (A := 800000000) (B := 20000) (a := max h2 (-h2)) (b := w1) (by omega) (by omega) (by omega) (by omega)
  have p1a : -16000000000000 ≤ max h1 (-h1) * w2 := by omega
  have p1b : max h1 (-h1) * w2 ≤ 16000000000000 := by omega
  have p2a : -16000000000000 ≤ max h2 (-h2) * w1 := by omega
  have p2b : max h2 (-h2) * w1 ≤ 16000000000000 := by omega
  clear m1 m2 p1 p2
  go_enter Tryd.func108, Tryd.ntmps108
  go_wp2_with fail
  refine (H1.out _ (by go_grown)).mono ?_
  rintro e w3 ⟨rfl, h3⟩
  have B3 : Below w.heap.size w w3 := below_via (by go_grown) h3
  have s3 := h3.size
  simp at s3
  obtain ⟨q0, q1, q2, _, _, _⟩ := ((Box.new (w.alloc (.cells #[.int .i64 (i : Int), .int .i64 (j : Int), .int .i64 (k : Int)] 101)) #[.int .i64 (i' : Int), .int .i64 (j' : Int), .int .i64 (k' : Int)] 101 (n := w.heap.size + 1) (by simp)).keep h3).three
  clear h3
  go_wp2_with fail
  refine (H2.out _ (by go_grown)).mono ?_
  rintro e w4 ⟨rfl, h4⟩
  have B4 : Below w.heap.size w w4 := below_via (by go_grown) h4
  clear h4
  go_wp2_with fail
  go_ret
  exact ⟨ret_bool rfl, by assumption⟩

def dots3 : Array Value := #[.int .i64 0, .int .i64 0, .int .i64 1, .int .i64 1, .int .i64 2, .int .i64 0]
theorem Box.six {w : World} {b : Nat} (h : Box w b dots3 107) : (w.cell? ⟨b, 0, none⟩ = some (.int .i64 0) ∧ w.cell? ⟨b, 1, none⟩ = some (.int .i64 0)) ∧ (w.cell? ⟨b, 2, none⟩ = some (.int .i64 1) ∧ w.cell? ⟨b, 3, none⟩ = some (.int .i64 1)) ∧ (w.cell? ⟨b, 4, none⟩ = some (.int .i64 2) ∧ w.cell? ⟨b, 5, none⟩ = some (.int .i64 0)) :=
  ⟨⟨h.cell 0, h.cell 1⟩, ⟨h.cell 2, h.cell 3⟩, ⟨h.cell 4, h.cell 5⟩⟩
set_option maxHeartbeats 1600000 in
theorem chkDots_awake (b : Nat) (w : World) (h : Box w b dots3 107) :
    Calls Tryd.prog 107 #[.slice (some ⟨b, 0, none⟩) 3 3] w fun e w' => e = .returned (.int .i64 0) ∧ Below w.heap.size w w' := by
  have hb0 := h.lt
  have hb1 : b < w.heap.size + 1 := by omega
  have hb2 : b < w.heap.size + 1 + 1 := by omega
  have hb3 : b < w.heap.size + 1 + 1 + 1 := by omega
  obtain ⟨⟨c0, c1⟩, ⟨c2, c3⟩, ⟨c4, c5⟩⟩ := h.six
  have e1 : inB 0 10000 = true := by decide
  have e2 : inB 1 10000 = true := by decide
  have e3 : inB 2 10000 = true := by decide
  clear h
  go_enter Tryd.func107, Tryd.ntmps107
  go_wp2_with fail
  refine wp_loop_rounds 4 ?_
  iterate 3 (rw [rounds_succ]; go_wp2_with (go_at_call 72; refine (within_any _ _ _ (by omega) (by omega)).mono ?_; rintro e w' ⟨rfl, rfl⟩); go_quiet (fail); go_wp2_with fail)
  rw [rounds_succ]
  go_wp2_with fail
  go_ret
  refine ⟨rfl, ?_⟩
  repeat' (first | (with_reducible exact Below.refl _ _) | (with_reducible assumption) | (with_reducible refine below_drewN ?_ _) | (with_reducible refine Below.drew ?_) | (with_reducible refine Below.setCell ?_ ?_ _) | (with_reducible refine Below.alloc ?_ ?_ _) | go_size)
end Go.Proofs.YtbagmfnedgjndaaDoor
