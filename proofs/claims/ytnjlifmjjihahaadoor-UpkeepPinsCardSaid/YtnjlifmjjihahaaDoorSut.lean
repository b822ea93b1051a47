/-
  Products of pitches by their exponents: temper.times and temper.sum return three numbers, whatever they are. No condition but the length of the list.
-/
import Derived.Test.YtnjlifmjjihahaaDoorBase
import Derived.Deep.MidRow
namespace Go.Proofs.YtnjlifmjjihahaaDoor
open Go.RowKit
def ThrR (w : World) (e : Ending) (w' : World) : Prop := ∃ x y z : Int, e = .returned (.agg #[.int .i64 x, .int .i64 y, .int .i64 z]) ∧ Below w.heap.size w w'
set_option maxRecDepth 100000 in
set_option maxHeartbeats 3200000 in
theorem times_ex (a b c n : Int) (w : World) : Calls Tryd.prog 131 #[.agg #[.int .i64 a, .int .i64 b, .int .i64 c], .int .i64 n] w (ThrR w) := by
  go_enter Tryd.func131, Tryd.ntmps131
  go_wp2
  repeat (first | (refine wp_loop_rounds 4 ?_) | (rw [rounds_succ]; go_wp2))
  refine bodyPost_ret (v := .agg #[.int .i64 _, .int .i64 _, .int .i64 _]) (by simp [results, Tryd.results131, go_sem]; exact ⟨rfl, rfl, rfl⟩) rfl ⟨_, _, _, rfl, ?_⟩
  (repeat' (first | (with_reducible exact Below.refl _ _) | (with_reducible assumption) | (with_reducible refine Below.drew ?_) | (with_reducible refine below_drewN ?_ _) | (with_reducible refine Below.setCell ?_ ?_ _) | (with_reducible refine Below.alloc ?_ ?_ _) | go_size | omega))
/-- terms in a row: each three numbers -/
def TrmAt (w : World) (b n : Nat) : Prop := ∀ j, j < n → ∃ x y z : Int, w.cell? ⟨b, j * 3, none⟩ = some (.int .i64 x) ∧ w.cell? ⟨b, j * 3 + 1, none⟩ = some (.int .i64 y) ∧ w.cell? ⟨b, j * 3 + 2, none⟩ = some (.int .i64 z)
theorem TrmAt.keep {w w' : World} {b n : Nat} (h : TrmAt w b n) (hb : Below w.heap.size w w') (hl : b < w.heap.size) : TrmAt w' b n := fun j hj => by
  obtain ⟨x, y, z, h0, h1, h2⟩ := h j hj
  exact ⟨x, y, z, (hb.cell (p := ⟨b, j * 3, none⟩) hl).trans h0, (hb.cell (p := ⟨b, j * 3 + 1, none⟩) hl).trans h1, (hb.cell (p := ⟨b, j * 3 + 2, none⟩) hl).trans h2⟩
def ThrBox (w : World) (b : Nat) : Prop := ∃ x y z : Int, Box w b #[.int .i64 x, .int .i64 y, .int .i64 z] 179
theorem ThrBox.keep {w w' : World} {b : Nat} (h : ThrBox w b) (hb : Below w.heap.size w w') : ThrBox w' b := by
  obtain ⟨x, y, z, h⟩ := h; exact ⟨x, y, z, h.keep hb⟩
set_option maxRecDepth 100000 in
set_option maxHeartbeats 3200000 in
theorem sum_ex (b cap n : Nat) (w : World) (hl : b < w.heap.size) (hn : n ≤ 1000) (ht : TrmAt w b n) : Calls Tryd.prog 130 #[.slice (some ⟨b, 0, none⟩) n cap] w (ThrR w) := by
  have HT := Lib.hid ht; clear ht
  go_enter Tryd.func130, Tryd.ntmps130
  go_wp2
  have Z0 := Lib.hid ((Box.new w #[.int .i64 0, .int .i64 0, .int .i64 0] 179 (n := w.heap.size) rfl).alloc (.cells #[.int .i64 0, .int .i64 0, .int .i64 0] 179))
  have Z1 := Lib.hid (Box.new (w.alloc (.cells #[.int .i64 0, .int .i64 0, .int .i64 0] 179)) #[.int .i64 0, .int .i64 0, .int .i64 0] 179 (n := w.heap.size + 1) (by simp))
  have B0 : Below w.heap.size w ((w.alloc (.cells #[.int .i64 0, .int .i64 0, .int .i64 0] 179)).alloc (.cells #[.int .i64 0, .int .i64 0, .int .i64 0] 179)) := by (repeat' (first | (with_reducible exact Below.refl _ _) | (with_reducible assumption) | (with_reducible refine Below.drew ?_) | (with_reducible refine below_drewN ?_ _) | (with_reducible refine Below.setCell ?_ ?_ _) | (with_reducible refine Below.alloc ?_ ?_ _) | go_size | omega))
  generalize ((w.alloc (.cells #[.int .i64 0, .int .i64 0, .int .i64 0] 179)).alloc (.cells #[.int .i64 0, .int .i64 0, .int .i64 0] 179)) = u at *
  go_loopw [9] (fun i wr => ∃ k : Nat, k ≤ n ∧ i = .int .i64 k ∧ Box wr w.heap.size #[.int .i64 0, .int .i64 0, .int .i64 0] 179 ∧ ThrBox wr (w.heap.size + 1) ∧ Below w.heap.size w wr) (fun i _ => n - (intOf i).toNat)
  case atStart => exact ⟨0, Nat.zero_le _, rfl, Z0.out, ⟨0, 0, 0, Z1.out⟩, B0⟩
  case round =>
    obtain ⟨k, hk, rfl, R0, RT, RB⟩ := hrel
    by_cases hlt : k < n
    · obtain ⟨x, y, z, c0, c1, c2⟩ := HT.out.keep RB hl k hlt
      have R0 := Lib.hid R0; have RT := Lib.hid RT
      have lb : b < wr.heap.size := Nat.lt_of_lt_of_le hl RB.size
      go_wp2
      have T0 := Lib.hid (Box.new wr #[.int .i64 x, .int .i64 y, .int .i64 z] 179 (n := wr.heap.size) rfl)
      have zb := RB.size
      have R01 := Lib.hid (R0.out.alloc (.cells #[.int .i64 x, .int .i64 y, .int .i64 z] 179))
      have RT1 := Lib.hid (RT.out.keep ((Below.refl _ wr).alloc (Nat.le_refl _) (.cells #[.int .i64 x, .int .i64 y, .int .i64 z] 179)))
      have B1 : Below w.heap.size w (wr.alloc (.cells #[.int .i64 x, .int .i64 y, .int .i64 z] 179)) := by (repeat' (first | (with_reducible exact Below.refl _ _) | (with_reducible assumption) | (with_reducible refine Below.drew ?_) | (with_reducible refine below_drewN ?_ _) | (with_reducible refine Below.setCell ?_ ?_ _) | (with_reducible refine Below.alloc ?_ ?_ _) | go_size | omega))
      have zr : w.heap.size + 1 < wr.heap.size := by obtain ⟨x1, y1, z1, h1⟩ := RT.out; exact h1.lt
      clear c0 c1 c2 R0 RT
      generalize hB : wr.heap.size = tb at *
      generalize (wr.alloc (.cells #[.int .i64 x, .int .i64 y, .int .i64 z] 179)) = v at *
      clear hB RB lb
      go_loopw [13] (fun i wq => ∃ j : Nat, j ≤ 3 ∧ i = .int .i64 j ∧ Box wq w.heap.size #[.int .i64 0, .int .i64 0, .int .i64 0] 179 ∧ ThrBox wq (w.heap.size + 1) ∧ Box wq tb #[.int .i64 x, .int .i64 y, .int .i64 z] 179 ∧ Below w.heap.size w wq) (fun i _ => 3 - (intOf i).toNat)
      case atStart => exact ⟨0, by omega, rfl, R01.out, RT1.out, T0.out, B1⟩
      case round =>
        obtain ⟨j, hj, rfl, Q0, ⟨a1, a2, a3, Q1⟩, Q2, QB⟩ := hrel
        clear R01 RT1 T0 B1
        by_cases h3 : j < 3
        · obtain ⟨q0, q1, q2, -⟩ := Q2.three
          obtain ⟨p0, p1, p2, f0, f1, f2⟩ := Q1.three
          have lq := Q2.lt; have lp := Q1.lt
          have Q0 := Lib.hid Q0; have Q1 := Lib.hid Q1; have Q2 := Lib.hid Q2
          obtain rfl | rfl | rfl : j = 0 ∨ j = 1 ∨ j = 2 := by omega
          · clear p1 p2 q1 q2 f1 f2
            go_wp2
            go_region
            all_goals
              go_wp2
              go_roundw
              case rel => exact ⟨1, by omega, rfl, (Q0.out.other _ _ (by simp)).drew, ⟨_, a2, a3, (Q1.out.set 0 _).drew⟩, (Q2.out.other _ _ (by simp; omega)).drew, by (repeat' (first | (with_reducible exact Below.refl _ _) | (with_reducible assumption) | (with_reducible refine Below.drew ?_) | (with_reducible refine below_drewN ?_ _) | (with_reducible refine Below.setCell ?_ ?_ _) | (with_reducible refine Below.alloc ?_ ?_ _) | go_size | omega))⟩
              case measure => simp [intOf]
          · clear p0 p2 q0 q2 f0 f2
            go_wp2
            go_region
            all_goals
              go_wp2
              go_roundw
              case rel => exact ⟨2, by omega, rfl, (Q0.out.other _ _ (by simp)).drew, ⟨a1, _, a3, (Q1.out.set 1 _).drew⟩, (Q2.out.other _ _ (by simp; omega)).drew, by (repeat' (first | (with_reducible exact Below.refl _ _) | (with_reducible assumption) | (with_reducible refine Below.drew ?_) | (with_reducible refine below_drewN ?_ _) | (with_reducible refine Below.setCell ?_ ?_ _) | (with_reducible refine Below.alloc ?_ ?_ _) | go_size | omega))⟩
              case measure => simp [intOf]
          · clear p0 p1 q0 q1 f0 f1
            go_wp2
            go_region
            all_goals
              go_wp2
              go_roundw
              case rel => exact ⟨3, by omega, rfl, (Q0.out.other _ _ (by simp)).drew, ⟨a1, a2, _, (Q1.out.set 2 _).drew⟩, (Q2.out.other _ _ (by simp; omega)).drew, by (repeat' (first | (with_reducible exact Below.refl _ _) | (with_reducible assumption) | (with_reducible refine Below.drew ?_) | (with_reducible refine below_drewN ?_ _) | (with_reducible refine Below.setCell ?_ ?_ _) | (with_reducible refine Below.alloc ?_ ?_ _) | go_size | omega))⟩
              case measure => simp [intOf]
        · obtain rfl : j = 3 := by omega
          have Q0 := Lib.hid Q0; have Q1 := Lib.hid Q1
          go_wp2
          go_roundw
          case rel => exact ⟨k + 1, by omega, by go_num, Q0.out, ⟨_, _, _, Q1.out⟩, QB⟩
          case measure => simp [intOf]; omega
    · obtain rfl : k = n := by omega
      obtain ⟨a1, a2, a3, R1⟩ := RT
      obtain ⟨p0, p1, p2, -⟩ := R1.three
      have l0 := R0.lt
      have l1 := R1.lt
      have q0 := R0.free 0; have q1 := R0.free 1; have q2 := R0.free 2
      obtain ⟨g0, g1, g2, -⟩ := R0.three
      have R0 := Lib.hid R0
      have zb := RB.size
      go_wp2
      have RV : Box (((wr.setCell ⟨w.heap.size, 0, none⟩ (.int .i64 a1)).setCell ⟨w.heap.size, 1, none⟩ (.int .i64 a2)).setCell ⟨w.heap.size, 2, none⟩ (.int .i64 a3)) w.heap.size #[.int .i64 a1, .int .i64 a2, .int .i64 a3] 179 := ((R0.out.set 0 _).set 1 _).set 2 _
      have BV : Below w.heap.size w (((wr.setCell ⟨w.heap.size, 0, none⟩ (.int .i64 a1)).setCell ⟨w.heap.size, 1, none⟩ (.int .i64 a2)).setCell ⟨w.heap.size, 2, none⟩ (.int .i64 a3)) := by (repeat' (first | (with_reducible exact Below.refl _ _) | (with_reducible assumption) | (with_reducible refine Below.drew ?_) | (with_reducible refine below_drewN ?_ _) | (with_reducible refine Below.setCell ?_ ?_ _) | (with_reducible refine Below.alloc ?_ ?_ _) | go_size | omega))
      generalize (((wr.setCell ⟨w.heap.size, 0, none⟩ (.int .i64 a1)).setCell ⟨w.heap.size, 1, none⟩ (.int .i64 a2)).setCell ⟨w.heap.size, 2, none⟩ (.int .i64 a3)) = v at *
      have s0 := RV.cell 0; have s1 := RV.cell 1; have s2 := RV.cell 2
      simp at s0 s1 s2
      refine bodyPost_ret (v := .agg #[.int .i64 a1, .int .i64 a2, .int .i64 a3]) (by simp [results, Tryd.results130, go_sem, s0, s1, s2]) rfl ⟨_, _, _, rfl, BV⟩
end Go.Proofs.YtnjlifmjjihahaaDoor
