/-
  The walks of bend, worse, reduced, lineOfThree.
-/
import Derived.Test.YtbagmfnedgjndaaDoorPit
import Derived.Deep.RegionHeld3
import Derived.StillTailTactics
namespace Go.Proofs.YtbagmfnedgjndaaDoor
open Go.RowKit

theorem still_tail {P : Program} {id : Nat} {Q : Exit → Act → World → Prop} {a : Act} {w : World} {l : List Oper} (n : Nat) (hm : P.follows .mixedOrders = true) (hB : Region.lexTailB .any l.toArray n = true)
    (h : wpStill P l.toArray w.drew (fun a' => wpList P l.toArray Q (l.drop n) a' w.drew) (l.take n) a) : (Code.region id l.toArray true).wp P Q a w := wp_region_still_tail n hm hB h
/-- dots, as a slice holds them -/
def dotAt (ds : List (Int × Int)) (i : Nat) : Int × Int := ds.getD i (0, 0)
structure Dots (w : World) (b off : Nat) (ds : List (Int × Int)) : Prop where
  lt : b < w.heap.size
  x : ∀ i, i < ds.length → w.cell? ⟨b, off + i * 2, none⟩ = some (.int .i64 (dotAt ds i).1)
  y : ∀ i, i < ds.length → w.cell? ⟨b, off + i * 2 + 1, none⟩ = some (.int .i64 (dotAt ds i).2)
theorem Dots.keep {w w' : World} {b off : Nat} {ds : List (Int × Int)} (h : Dots w b off ds) (hb : Below w.heap.size w w') : Dots w' b off ds :=
  ⟨Nat.lt_of_lt_of_le h.lt hb.size, fun i hi => (hb.cell (p := ⟨b, off + i * 2, none⟩) h.lt).trans (h.x i hi), fun i hi => (hb.cell (p := ⟨b, off + i * 2 + 1, none⟩) h.lt).trans (h.y i hi)⟩

def okD (ds : List (Int × Int)) : Prop := ∀ i, (-10000 ≤ (dotAt ds i).1 ∧ (dotAt ds i).1 ≤ 10000) ∧ (-10000 ≤ (dotAt ds i).2 ∧ (dotAt ds i).2 ≤ 10000)
/-- the height of the middle dot above the line through the outer ones, times the width -/
def hgt (ax ay bx b_y cx cy : Int) : Int := (b_y - ay) * (cx - ax) - (cy - ay) * (bx - ax)
theorem mul_bd {a b A B : Int} (h0 : -A ≤ a) (h1 : a ≤ A) (h2 : -B ≤ b) (h3 : b ≤ B) : -(A * B) ≤ a * b ∧ a * b ≤ A * B := by
  have hA : 0 ≤ A := by omega
  have hB : 0 ≤ B := by omega
  have e : (a * b).natAbs ≤ (A * B).natAbs := by
    rw [Int.natAbs_mul, Int.natAbs_mul]
    exact Nat.mul_le_mul (by omega) (by omega)
  have : 0 ≤ A * B := Int.mul_nonneg hA hB
  omega

set_option maxRecDepth 100000 in
set_option maxHeartbeats 800000 in
theorem bend_any (b off n cap i j k : Nat) (ax ay bx b_y cx cy : Int) (w : World) (hb : b < w.heap.size) (hi : i < n) (hj : j < n) (hk : k < n) (hn : n ≤ 70) (x0 : -10000 ≤ ax) (x1 : ax ≤ 10000) (x2 : -10000 ≤ ay) (x3 : ay ≤ 10000) (y0 : -10000 ≤ bx) (y1 : bx ≤ 10000) (y2 : -10000 ≤ b_y) (y3 : b_y ≤ 10000) (z0 : -10000 ≤ cx) (z1 : cx ≤ 10000) (z2 : -10000 ≤ cy) (z3 : cy ≤ 10000)
    (a1 : w.cell? ⟨b, off + i * 2, none⟩ = some (.int .i64 ax)) (a2 : w.cell? ⟨b, off + i * 2 + 1, none⟩ = some (.int .i64 ay))
    (b1 : w.cell? ⟨b, off + j * 2, none⟩ = some (.int .i64 bx)) (b2 : w.cell? ⟨b, off + j * 2 + 1, none⟩ = some (.int .i64 b_y))
    (c1 : w.cell? ⟨b, off + k * 2, none⟩ = some (.int .i64 cx)) (c2 : w.cell? ⟨b, off + k * 2 + 1, none⟩ = some (.int .i64 cy)) :
    Calls Tryd.prog 119 #[.slice (some ⟨b, off, none⟩) n cap, .agg #[.int .i64 (i : Int), .int .i64 (j : Int), .int .i64 (k : Int)]] w fun e w' =>
      e = .returned (.tuple #[.int .i64 (hgt ax ay bx b_y cx cy), .int .i64 (cx - ax)]) ∧ Below w.heap.size w w' := by
  have m1 := mul_bd (A := 20000) (B := 20000) (a := b_y - ay) (b := cx - ax) (by omega) (by omega) (by omega) (by omega)
  have m2 := mul_bd (A := 20000) (B := 20000) (a := cy - ay) (b := bx - ax) (by omega) (by omega) (by omega) (by omega)
  have m1a : -400000000 ≤ (b_y - ay) * (cx - ax) := by omega
  have m1b : (b_y - ay) * (cx - ax) ≤ 400000000 := by omega
  have m2a : -400000000 ≤ (cy - ay) * (bx - ax) := by omega
  have m2b : (cy - ay) * (bx - ax) ≤ 400000000 := by omega
  clear m1 m2
  have P1 := Lib.hid (fun (w' : World) (h : Below w.heap.size w w') => (h.cell (p := ⟨b, off + i * 2, none⟩) hb).trans a1)
  have P2 := Lib.hid (fun (w' : World) (h : Below w.heap.size w w') => (h.cell (p := ⟨b, off + i * 2 + 1, none⟩) hb).trans a2)
  have P3 := Lib.hid (fun (w' : World) (h : Below w.heap.size w w') => (h.cell (p := ⟨b, off + j * 2, none⟩) hb).trans b1)
  have P4 := Lib.hid (fun (w' : World) (h : Below w.heap.size w w') => (h.cell (p := ⟨b, off + j * 2 + 1, none⟩) hb).trans b2)
  have P5 := Lib.hid (fun (w' : World) (h : Below w.heap.size w w') => (h.cell (p := ⟨b, off + k * 2, none⟩) hb).trans c1)
  have P6 := Lib.hid (fun (w' : World) (h : Below w.heap.size w w') => (h.cell (p := ⟨b, off + k * 2 + 1, none⟩) hb).trans c2)
  have n0 : ¬ b = w.heap.size := by omega
  have n1 : ¬ b = w.heap.size + 1 := by omega
  have n2 : ¬ b = w.heap.size + 1 + 1 := by omega
  have n3 : ¬ b = w.heap.size + 1 + 1 + 1 := by omega
  have hb1 : b < w.heap.size + 1 := by omega
  have hb2 : b < w.heap.size + 1 + 1 := by omega
  have hb3 : b < w.heap.size + 1 + 1 + 1 := by omega
  have hb4 : b < w.heap.size + 1 + 1 + 1 + 1 := by omega
  go_enter Tryd.func119, Tryd.ntmps119
  go_wp2_with fail
  go_region_held3 (fun w' => w'.cell? ⟨w.heap.size, 0, none⟩ = some (.int .i64 (i : Int)) ∧ w'.cell? ⟨w.heap.size, 1, none⟩ = some (.int .i64 (j : Int)) ∧ w'.cell? ⟨w.heap.size, 2, none⟩ = some (.int .i64 (k : Int)) ∧
    w'.cell? ⟨b, off + i * 2, none⟩ = some (.int .i64 ax) ∧ w'.cell? ⟨b, off + i * 2 + 1, none⟩ = some (.int .i64 ay) ∧ w'.cell? ⟨b, off + j * 2, none⟩ = some (.int .i64 bx) ∧ w'.cell? ⟨b, off + j * 2 + 1, none⟩ = some (.int .i64 b_y) ∧ w'.cell? ⟨b, off + k * 2, none⟩ = some (.int .i64 cx) ∧ w'.cell? ⟨b, off + k * 2 + 1, none⟩ = some (.int .i64 cy)) (exact ⟨by go_cell, by go_cell, by go_cell, P1.out _ (by go_grown), P2.out _ (by go_grown), P3.out _ (by go_grown), P4.out _ (by go_grown), P5.out _ (by go_grown), P6.out _ (by go_grown)⟩) (first | fail)
  all_goals go_wp2_with fail
  all_goals go_ret2
  all_goals exact ⟨rfl, by go_grown⟩
end Go.Proofs.YtbagmfnedgjndaaDoor
