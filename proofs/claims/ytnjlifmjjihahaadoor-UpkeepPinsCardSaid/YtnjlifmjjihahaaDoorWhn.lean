/-
  Numbers that are made of 2, 3 and 5: temper.wholeNumber at the partials from 1 to 16. Condition: the table of primes holds what its initialiser lays.
-/
import Derived.Test.YtnjlifmjjihahaaDoorBase
namespace Go.Proofs.YtnjlifmjjihahaaDoor
open Go.RowKit
/-- the table of primes -/
def PrimesT (w : World) : Prop := w.cell? ⟨1, 0, none⟩ = some (.int .i64 2) ∧ w.cell? ⟨1, 1, none⟩ = some (.int .i64 3) ∧ w.cell? ⟨1, 2, none⟩ = some (.int .i64 5) ∧ 1 < w.heap.size
theorem PrimesT.keep {w w' : World} (h : PrimesT w) (hb : Below w.heap.size w w') : PrimesT w' :=
  ⟨(hb.cell (p := ⟨1, 0, none⟩) h.2.2.2).trans h.1, (hb.cell (p := ⟨1, 1, none⟩) h.2.2.2).trans h.2.1, (hb.cell (p := ⟨1, 2, none⟩) h.2.2.2).trans h.2.2.1, Nat.lt_of_lt_of_le h.2.2.2 hb.size⟩
/-- whether a partial is made of 2, 3 and 5 -/
def smo (n : Int) : Bool := !(n == 7 || n == 11 || n == 13 || n == 14)
def WnR (n : Int) (w : World) (e : Ending) (w' : World) : Prop := ∃ x y z : Int, e = .returned (.tuple #[.agg #[.int .i64 x, .int .i64 y, .int .i64 z], .bool (smo n)]) ∧ Below w.heap.size w w'
theorem pidx0 (w : World) : (Instr.index 167 (.agg #[.int .i64 2, .int .i64 3, .int .i64 5]) (.int .i64 0)).run Tryd.prog w = .ok (.int .i64 2) w := by kernel_rfl
theorem pidx1 (w : World) : (Instr.index 167 (.agg #[.int .i64 2, .int .i64 3, .int .i64 5]) (.int .i64 1)).run Tryd.prog w = .ok (.int .i64 3) w := by kernel_rfl
theorem pidx2 (w : World) : (Instr.index 167 (.agg #[.int .i64 2, .int .i64 3, .int .i64 5]) (.int .i64 2)).run Tryd.prog w = .ok (.int .i64 5) w := by kernel_rfl
set_option maxRecDepth 100000 in
set_option maxHeartbeats 3200000 in
theorem wn_1 (w : World) (hp : PrimesT w) : Calls Tryd.prog 129 #[.int .i64 1] w (WnR 1 w) := by
  have hq : ∀ o o', PrimesT ((w.alloc o).alloc o') := fun o o' => hp.keep (((Below.refl _ w).alloc (Nat.le_refl _) _).alloc (by simp) _)
  have p0 := fun o o' => (hq o o').1
  have p1 := fun o o' => (hq o o').2.1
  have p2 := fun o o' => (hq o o').2.2.1
  clear hq hp
  have i0 := pidx0; have i1 := pidx1; have i2 := pidx2
  go_enter Tryd.func129, Tryd.ntmps129
  go_wp2
  repeat (first | (refine wp_loop_rounds 6 ?_) | (rw [rounds_succ]; go_wp2))
  refine bodyPost_ret (v := .tuple #[.agg #[.int .i64 0, .int .i64 0, .int .i64 0], .bool true]) (by simp [results, Tryd.results129, go_sem]) rfl ⟨0, 0, 0, rfl, ?_⟩
  (repeat' (first | (with_reducible exact Below.refl _ _) | (with_reducible assumption) | (with_reducible refine Below.drew ?_) | (with_reducible refine below_drewN ?_ _) | (with_reducible refine Below.setCell ?_ ?_ _) | (with_reducible refine Below.alloc ?_ ?_ _) | go_size | omega))
set_option maxRecDepth 100000 in
set_option maxHeartbeats 3200000 in
theorem wn_2 (w : World) (hp : PrimesT w) : Calls Tryd.prog 129 #[.int .i64 2] w (WnR 2 w) := by
  have hq : ∀ o o', PrimesT ((w.alloc o).alloc o') := fun o o' => hp.keep (((Below.refl _ w).alloc (Nat.le_refl _) _).alloc (by simp) _)
  have p0 := fun o o' => (hq o o').1
  have p1 := fun o o' => (hq o o').2.1
  have p2 := fun o o' => (hq o o').2.2.1
  clear hq hp
  have i0 := pidx0; have i1 := pidx1; have i2 := pidx2
  go_enter Tryd.func129, Tryd.ntmps129
  go_wp2
  repeat (first | (refine wp_loop_rounds 6 ?_) | (rw [rounds_succ]; go_wp2))
  refine bodyPost_ret (v := .tuple #[.agg #[.int .i64 12, .int .i64 0, .int .i64 0], .bool true]) (by simp [results, Tryd.results129, go_sem]) rfl ⟨12, 0, 0, rfl, ?_⟩
  (repeat' (first | (with_reducible exact Below.refl _ _) | (with_reducible assumption) | (with_reducible refine Below.drew ?_) | (with_reducible refine below_drewN ?_ _) | (with_reducible refine Below.setCell ?_ ?_ _) | (with_reducible refine Below.alloc ?_ ?_ _) | go_size | omega))
set_option maxRecDepth 100000 in
set_option maxHeartbeats 3200000 in
theorem wn_3 (w : World) (hp : PrimesT w) : Calls Tryd.prog 129 #[.int .i64 3] w (WnR 3 w) := by
  have hq : ∀ o o', PrimesT ((w.alloc o).alloc o') := fun o o' => hp.keep (((Below.refl _ w).alloc (Nat.le_refl _) _).alloc (by simp) _)
  have p0 := fun o o' => (hq o o').1
  have p1 := fun o o' => (hq o o').2.1
  have p2 := fun o o' => (hq o o').2.2.1
  clear hq hp
  have i0 := pidx0; have i1 := pidx1; have i2 := pidx2
  go_enter Tryd.func129, Tryd.ntmps129
  go_wp2
  repeat (first | (refine wp_loop_rounds 6 ?_) | (rw [rounds_succ]; go_wp2))
  refine bodyPost_ret (v := .tuple #[.agg #[.int .i64 0, .int .i64 12, .int .i64 0], .bool true]) (by simp [results, Tryd.results129, go_sem]) rfl ⟨0, 12, 0, rfl, ?_⟩
  (repeat' (first | (with_reducible exact Below.refl _ _) | (with_reducible assumption) | (with_reducible refine Below.drew ?_) | (with_reducible refine below_drewN ?_ _) | (with_reducible refine Below.setCell ?_ ?_ _) | (with_reducible refine Below.alloc ?_ ?_ _) | go_size | omega))
set_option maxRecDepth 100000 in
set_option maxHeartbeats 3200000 in
theorem wn_4 (w : World) (hp : PrimesT w) : Calls Tryd.prog 129 #[.int .i64 4] w (WnR 4 w) := by
  have hq : ∀ o o', PrimesT ((w.alloc o).alloc o') := fun o o' => hp.keep (((Below.refl _ w).alloc (Nat.le_refl _) _).alloc (by simp) _)
  have p0 := fun o o' => (hq o o').1
  have p1 := fun o o' => (hq o o').2.1
  have p2 := fun o o' => (hq o o').2.2.1
  clear hq hp
  have i0 := pidx0; have i1 := pidx1; have i2 := pidx2
  go_enter Tryd.func129, Tryd.ntmps129
  go_wp2
  repeat (first | (refine wp_loop_rounds 6 ?_) | (rw [rounds_succ]; go_wp2))
  refine bodyPost_ret (v := .tuple #[.agg #[.int .i64 24, .int .i64 0, .int .i64 0], .bool true]) (by simp [results, Tryd.results129, go_sem]) rfl ⟨24, 0, 0, rfl, ?_⟩
  (repeat' (first | (with_reducible exact Below.refl _ _) | (with_reducible assumption) | (with_reducible refine Below.drew ?_) | (with_reducible refine below_drewN ?_ _) | (with_reducible refine Below.setCell ?_ ?_ _) | (with_reducible refine Below.alloc ?_ ?_ _) | go_size | omega))
set_option maxRecDepth 100000 in
set_option maxHeartbeats 3200000 in
theorem wn_5 (w : World) (hp : PrimesT w) : Calls Tryd.prog 129 #[.int .i64 5] w (WnR 5 w) := by
  have hq : ∀ o o', PrimesT ((w.alloc o).alloc o') := fun o o' => hp.keep (((Below.refl _ w).alloc (Nat.le_refl _) _).alloc (by simp) _)
  have p0 := fun o o' => (hq o o').1
  have p1 := fun o o' => (hq o o').2.1
  have p2 := fun o o' => (hq o o').2.2.1
  clear hq hp
  have i0 := pidx0; have i1 := pidx1; have i2 := pidx2
  go_enter Tryd.func129, Tryd.ntmps129
  go_wp2
  repeat (first | (refine wp_loop_rounds 6 ?_) | (rw [rounds_succ]; go_wp2))
  refine bodyPost_ret (v := .tuple #[.agg #[.int .i64 0, .int .i64 0, .int .i64 12], .bool true]) (by simp [results, Tryd.results129, go_sem]) rfl ⟨0, 0, 12, rfl, ?_⟩
  (repeat' (first | (with_reducible exact Below.refl _ _) | (with_reducible assumption) | (with_reducible refine Below.drew ?_) | (with_reducible refine below_drewN ?_ _) | (with_reducible refine Below.setCell ?_ ?_ _) | (with_reducible refine Below.alloc ?_ ?_ _) | go_size | omega))
set_option maxRecDepth 100000 in
set_option maxHeartbeats 3200000 in
theorem wn_6 (w : World) (hp : PrimesT w) : Calls Tryd.prog 129 #[.int .i64 6] w (WnR 6 w) := by
  have hq : ∀ o o', PrimesT ((w.alloc o).alloc o') := fun o o' => hp.keep (((Below.refl _ w).alloc (Nat.le_refl _) _).alloc (by simp) _)
  have p0 := fun o o' => (hq o o').1
  have p1 := fun o o' => (hq o o').2.1
  have p2 := fun o o' => (hq o o').2.2.1
  clear hq hp
  have i0 := pidx0; have i1 := pidx1; have i2 := pidx2
  go_enter Tryd.func129, Tryd.ntmps129
  go_wp2
  repeat (first | (refine wp_loop_rounds 6 ?_) | (rw [rounds_succ]; go_wp2))
  refine bodyPost_ret (v := .tuple #[.agg #[.int .i64 12, .int .i64 12, .int .i64 0], .bool true]) (by simp [results, Tryd.results129, go_sem]) rfl ⟨12, 12, 0, rfl, ?_⟩
  (repeat' (first | (with_reducible exact Below.refl _ _) | (with_reducible assumption) | (with_reducible refine Below.drew ?_) | (with_reducible refine below_drewN ?_ _) | (with_reducible refine Below.setCell ?_ ?_ _) | (with_reducible refine Below.alloc ?_ ?_ _) | go_size | omega))
set_option maxRecDepth 100000 in
set_option maxHeartbeats 3200000 in
theorem wn_7 (w : World) (hp : PrimesT w) : Calls Tryd.prog 129 #[.int .i64 7] w (WnR 7 w) := by
  have hq : ∀ o o', PrimesT ((w.alloc o).alloc o') := fun o o' => hp.keep (((Below.refl _ w).alloc (Nat.le_refl _) _).alloc (by simp) _)
  have p0 := fun o o' => (hq o o').1
  have p1 := fun o o' => (hq o o').2.1
  have p2 := fun o o' => (hq o o').2.2.1
  clear hq hp
  have i0 := pidx0; have i1 := pidx1; have i2 := pidx2
  go_enter Tryd.func129, Tryd.ntmps129
  go_wp2
  repeat (first | (refine wp_loop_rounds 6 ?_) | (rw [rounds_succ]; go_wp2))
  refine bodyPost_ret (v := .tuple #[.agg #[.int .i64 0, .int .i64 0, .int .i64 0], .bool false]) (by simp [results, Tryd.results129, go_sem]) rfl ⟨0, 0, 0, rfl, ?_⟩
  (repeat' (first | (with_reducible exact Below.refl _ _) | (with_reducible assumption) | (with_reducible refine Below.drew ?_) | (with_reducible refine below_drewN ?_ _) | (with_reducible refine Below.setCell ?_ ?_ _) | (with_reducible refine Below.alloc ?_ ?_ _) | go_size | omega))
set_option maxRecDepth 100000 in
set_option maxHeartbeats 3200000 in
theorem wn_8 (w : World) (hp : PrimesT w) : Calls Tryd.prog 129 #[.int .i64 8] w (WnR 8 w) := by
  have hq : ∀ o o', PrimesT ((w.alloc o).alloc o') := fun o o' => hp.keep (((Below.refl _ w).alloc (Nat.le_refl _) _).alloc (by simp) _)
  have p0 := fun o o' => (hq o o').1
  have p1 := fun o o' => (hq o o').2.1
  have p2 := fun o o' => (hq o o').2.2.1
  clear hq hp
  have i0 := pidx0; have i1 := pidx1; have i2 := pidx2
  go_enter Tryd.func129, Tryd.ntmps129
  go_wp2
  repeat (first | (refine wp_loop_rounds 6 ?_) | (rw [rounds_succ]; go_wp2))
  refine bodyPost_ret (v := .tuple #[.agg #[.int .i64 36, .int .i64 0, .int .i64 0], .bool true]) (by simp [results, Tryd.results129, go_sem]) rfl ⟨36, 0, 0, rfl, ?_⟩
  (repeat' (first | (with_reducible exact Below.refl _ _) | (with_reducible assumption) | (with_reducible refine Below.drew ?_) | (with_reducible refine below_drewN ?_ _) | (with_reducible refine Below.setCell ?_ ?_ _) | (with_reducible refine Below.alloc ?_ ?_ _) | go_size | omega))
set_option maxRecDepth 100000 in
set_option maxHeartbeats 3200000 in
theorem wn_9 (w : World) (hp : PrimesT w) : Calls Tryd.prog 129 #[.int .i64 9] w (WnR 9 w) := by
  have hq : ∀ o o', PrimesT ((w.alloc o).alloc o') := fun o o' => hp.keep (((Below.refl _ w).alloc (Nat.le_refl _) _).alloc (by simp) _)
  have p0 := fun o o' => (hq o o').1
  have p1 := fun o o' => (hq o o').2.1
  have p2 := fun o o' => (hq o o').2.2.1
  clear hq hp
  have i0 := pidx0; have i1 := pidx1; have i2 := pidx2
  go_enter Tryd.func129, Tryd.ntmps129
  go_wp2
  repeat (first | (refine wp_loop_rounds 6 ?_) | (rw [rounds_succ]; go_wp2))
  refine bodyPost_ret (v := .tuple #[.agg #[.int .i64 0, .int .i64 24, .int .i64 0], .bool true]) (by simp [results, Tryd.results129, go_sem]) rfl ⟨0, 24, 0, rfl, ?_⟩
  (repeat' (first | (with_reducible exact Below.refl _ _) | (with_reducible assumption) | (with_reducible refine Below.drew ?_) | (with_reducible refine below_drewN ?_ _) | (with_reducible refine Below.setCell ?_ ?_ _) | (with_reducible refine Below.alloc ?_ ?_ _) | go_size | omega))
set_option maxRecDepth 100000 in
set_option maxHeartbeats 3200000 in
theorem wn_10 (w : World) (hp : PrimesT w) : Calls Tryd.prog 129 #[.int .i64 10] w (WnR 10 w) := by
  have hq : ∀ o o', PrimesT ((w.alloc o).alloc o') := fun o o' => hp.keep (((Below.refl _ w).alloc (Nat.le_refl _) _).alloc (by simp) _)
  have p0 := fun o o' => (hq o o').1
  have p1 := fun o o' => (hq o o').2.1
  have p2 := fun o o' => (hq o o').2.2.1
  clear hq hp
  have i0 := pidx0; have i1 := pidx1; have i2 := pidx2
  go_enter Tryd.func129, Tryd.ntmps129
  go_wp2
  repeat (first | (refine wp_loop_rounds 6 ?_) | (rw [rounds_succ]; go_wp2))
  refine bodyPost_ret (v := .tuple #[.agg #[.int .i64 12, .int .i64 0, .int .i64 12], .bool true]) (by simp [results, Tryd.results129, go_sem]) rfl ⟨12, 0, 12, rfl, ?_⟩
  (repeat' (first | (with_reducible exact Below.refl _ _) | (with_reducible assumption) | (with_reducible refine Below.drew ?_) | (with_reducible refine below_drewN ?_ _) | (with_reducible refine Below.setCell ?_ ?_ _) | (with_reducible refine Below.alloc ?_ ?_ _) | go_size | omega))
set_option maxRecDepth 100000 in
set_option maxHeartbeats 3200000 in
theorem wn_11 (w : World) (hp : PrimesT w) : Calls Tryd.prog 129 #[.int .i64 11] w (WnR 11 w) := by
  have hq : ∀ o o', PrimesT ((w.alloc o).alloc o') := fun o o' => hp.keep (((Below.refl _ w).alloc (Nat.le_refl _) _).alloc (by simp) _)
  have p0 := fun o o' => (hq o o').1
  have p1 := fun o o' => (hq o o').2.1
  have p2 := fun o o' => (hq o o').2.2.1
  clear hq hp
  have i0 := pidx0; have i1 := pidx1; have i2 := pidx2
  go_enter Tryd.func129, Tryd.ntmps129
  go_wp2
  repeat (first | (refine wp_loop_rounds 6 ?_) | (rw [rounds_succ]; go_wp2))
  refine bodyPost_ret (v := .tuple #[.agg #[.int .i64 0, .int .i64 0, .int .i64 0], .bool false]) (by simp [results, Tryd.results129, go_sem]) rfl ⟨0, 0, 0, rfl, ?_⟩
  (repeat' (first | (with_reducible exact Below.refl _ _) | (with_reducible assumption) | (with_reducible refine Below.drew ?_) | (with_reducible refine below_drewN ?_ _) | (with_reducible refine Below.setCell ?_ ?_ _) | (with_reducible refine Below.alloc ?_ ?_ _) | go_size | omega))
set_option maxRecDepth 100000 in
set_option maxHeartbeats 3200000 in
theorem wn_12 (w : World) (hp : PrimesT w) : Calls Tryd.prog 129 #[.int .i64 12] w (WnR 12 w) := by
  have hq : ∀ o o', PrimesT ((w.alloc o).alloc o') := fun o o' => hp.keep (((Below.refl _ w).alloc (Nat.le_refl _) _).alloc (by simp) _)
  have p0 := fun o o' => (hq o o').1
  have p1 := fun o o' => (hq o o').2.1
  have p2 := fun o o' => (hq o o').2.2.1
  clear hq hp
  have i0 := pidx0; have i1 := pidx1; have i2 := pidx2
  go_enter Tryd.func129, Tryd.ntmps129
  go_wp2
  repeat (first | (refine wp_loop_rounds 6 ?_) | (rw [rounds_succ]; go_wp2))
  refine bodyPost_ret (v := .tuple #[.agg #[.int .i64 24, .int .i64 12, .int .i64 0], .bool true]) (by simp [results, Tryd.results129, go_sem]) rfl ⟨24, 12, 0, rfl, ?_⟩
  (repeat' (first | (with_reducible exact Below.refl _ _) | (with_reducible assumption) | (with_reducible refine Below.drew ?_) | (with_reducible refine below_drewN ?_ _) | (with_reducible refine Below.setCell ?_ ?_ _) | (with_reducible refine Below.alloc ?_ ?_ _) | go_size | omega))
set_option maxRecDepth 100000 in
set_option maxHeartbeats 3200000 in
theorem wn_13 (w : World) (hp : PrimesT w) : Calls Tryd.prog 129 #[.int .i64 13] w (WnR 13 w) := by
  have hq : ∀ o o', PrimesT ((w.alloc o).alloc o') := fun o o' => hp.keep (((Below.refl _ w).alloc (Nat.le_refl _) _).alloc (by simp) _)
  have p0 := fun o o' => (hq o o').1
  have p1 := fun o o' => (hq o o').2.1
  have p2 := fun o o' => (hq o o').2.2.1
  clear hq hp
  have i0 := pidx0; have i1 := pidx1; have i2 := pidx2
  go_enter Tryd.func129, Tryd.ntmps129
  go_wp2
  repeat (first | (refine wp_loop_rounds 6 ?_) | (rw [rounds_succ]; go_wp2))
  refine bodyPost_ret (v := .tuple #[.agg #[.int .i64 0, .int .i64 0, .int .i64 0], .bool false]) (by simp [results, Tryd.results129, go_sem]) rfl ⟨0, 0, 0, rfl, ?_⟩
  (repeat' (first | (with_reducible exact Below.refl _ _) | (with_reducible assumption) | (with_reducible refine Below.drew ?_) | (with_reducible refine below_drewN ?_ _) | (with_reducible refine Below.setCell ?_ ?_ _) | (with_reducible refine Below.alloc ?_ ?_ _) | go_size | omega))
set_option maxRecDepth 100000 in
set_option maxHeartbeats 3200000 in
theorem wn_14 (w : World) (hp : PrimesT w) : Calls Tryd.prog 129 #[.int .i64 14] w (WnR 14 w) := by
  have hq : ∀ o o', PrimesT ((w.alloc o).alloc o') := fun o o' => hp.keep (((Below.refl _ w).alloc (Nat.le_refl _) _).alloc (by simp) _)
  have p0 := fun o o' => (hq o o').1
  have p1 := fun o o' => (hq o o').2.1
  have p2 := fun o o' => (hq o o').2.2.1
  clear hq hp
  have i0 := pidx0; have i1 := pidx1; have i2 := pidx2
  go_enter Tryd.func129, Tryd.ntmps129
  go_wp2
  repeat (first | (refine wp_loop_rounds 6 ?_) | (rw [rounds_succ]; go_wp2))
  refine bodyPost_ret (v := .tuple #[.agg #[.int .i64 12, .int .i64 0, .int .i64 0], .bool false]) (by simp [results, Tryd.results129, go_sem]) rfl ⟨12, 0, 0, rfl, ?_⟩
  (repeat' (first | (with_reducible exact Below.refl _ _) | (with_reducible assumption) | (with_reducible refine Below.drew ?_) | (with_reducible refine below_drewN ?_ _) | (with_reducible refine Below.setCell ?_ ?_ _) | (with_reducible refine Below.alloc ?_ ?_ _) | go_size | omega))
set_option maxRecDepth 100000 in
set_option maxHeartbeats 3200000 in
theorem wn_15 (w : World) (hp : PrimesT w) : Calls Tryd.prog 129 #[.int .i64 15] w (WnR 15 w) := by
  have hq : ∀ o o', PrimesT ((w.alloc o).alloc o') := fun o o' => hp.keep (((Below.refl _ w).alloc (Nat.le_refl _) _).alloc (by simp) _)
  have p0 := fun o o' => (hq o o').1
  have p1 := fun o o' => (hq o o').2.1
  have p2 := fun o o' => (hq o o').2.2.1
  clear hq hp
  have i0 := pidx0; have i1 := pidx1; have i2 := pidx2
  go_enter Tryd.func129, Tryd.ntmps129
  go_wp2
  repeat (first | (refine wp_loop_rounds 6 ?_) | (rw [rounds_succ]; go_wp2))
  refine bodyPost_ret (v := .tuple #[.agg #[.int .i64 0, .int .i64 12, .int .i64 12], .bool true]) (by simp [results, Tryd.results129, go_sem]) rfl ⟨0, 12, 12, rfl, ?_⟩
  (repeat' (first | (with_reducible exact Below.refl _ _) | (with_reducible assumption) | (with_reducible refine Below.drew ?_) | (with_reducible refine below_drewN ?_ _) | (with_reducible refine Below.setCell ?_ ?_ _) | (with_reducible refine Below.alloc ?_ ?_ _) | go_size | omega))
set_option maxRecDepth 100000 in
set_option maxHeartbeats 3200000 in
theorem wn_16 (w : World) (hp : PrimesT w) : Calls Tryd.prog 129 #[.int .i64 16] w (WnR 16 w) := by
  have hq : ∀ o o', PrimesT ((w.alloc o).alloc o') := fun o o' => hp.keep (((Below.refl _ w).alloc (Nat.le_refl _) _).alloc (by simp) _)
  have p0 := fun o o' => (hq o o').1
  have p1 := fun o o' => (hq o o').2.1
  have p2 := fun o o' => (hq o o').2.2.1
  clear hq hp
  have i0 := pidx0; have i1 := pidx1; have i2 := pidx2
  go_enter Tryd.func129, Tryd.ntmps129
  go_wp2
  repeat (first | (refine wp_loop_rounds 6 ?_) | (rw [rounds_succ]; go_wp2))
  refine bodyPost_ret (v := .tuple #[.agg #[.int .i64 48, .int .i64 0, .int .i64 0], .bool true]) (by simp [results, Tryd.results129, go_sem]) rfl ⟨48, 0, 0, rfl, ?_⟩
  (repeat' (first | (with_reducible exact Below.refl _ _) | (with_reducible assumption) | (with_reducible refine Below.drew ?_) | (with_reducible refine below_drewN ?_ _) | (with_reducible refine Below.setCell ?_ ?_ _) | (with_reducible refine Below.alloc ?_ ?_ _) | go_size | omega))
theorem wn_any (n : Int) (w : World) (hp : PrimesT w) (h0 : 1 ≤ n) (h1 : n ≤ 16) : Calls Tryd.prog 129 #[.int .i64 n] w (WnR n w) := by
  have h : n = 1 ∨ n = 2 ∨ n = 3 ∨ n = 4 ∨ n = 5 ∨ n = 6 ∨ n = 7 ∨ n = 8 ∨ n = 9 ∨ n = 10 ∨ n = 11 ∨ n = 12 ∨ n = 13 ∨ n = 14 ∨ n = 15 ∨ n = 16 := by omega
  rcases h with rfl | rfl | rfl | rfl | rfl | rfl | rfl | rfl | rfl | rfl | rfl | rfl | rfl | rfl | rfl | rfl
  · exact wn_1 w hp
  · exact wn_2 w hp
  · exact wn_3 w hp
  · exact wn_4 w hp
  · exact wn_5 w hp
  · exact wn_6 w hp
  · exact wn_7 w hp
  · exact wn_8 w hp
  · exact wn_9 w hp
  · exact wn_10 w hp
  · exact wn_11 w hp
  · exact wn_12 w hp
  · exact wn_13 w hp
  · exact wn_14 w hp
  · exact wn_15 w hp
  · exact wn_16 w hp
end Go.Proofs.YtnjlifmjjihahaaDoor
