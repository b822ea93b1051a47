/-
  The document's examples of chapter 7: 'awake'.
-/
import Derived.Test.YtnjlifmjjihahaaDoorMst
import Derived.Test.YtnjlifmjjihahaaDoorLea
import Derived.Test.YtnjlifmjjihahaaDoorPas
namespace Go.Proofs.YtnjlifmjjihahaaDoor
open Go Go.RowKit Go.Shelf
def l3 : List Tt := [⟨36, 43, 3, 2⟩, ⟨36, 40, 5, 4⟩, ⟨40, 43, 6, 5⟩]
theorem l3_ok : ouE l3 [0, 1] = 0 := by decide +kernel
theorem l3_nts : (ntsI (sgN l3 l3.length) 88).length = 3 := by decide +kernel
theorem l3_e0 : exps (sgN l3 l3.length) (fbE [0, 1]) 0 = [] := by decide +kernel
theorem l3_e1 : exps (sgN l3 l3.length) (fbE [0, 1]) 1 = [[36]] := by decide +kernel
theorem pa_aw : paV 10000 200 500 = (2, 0) := by decide +kernel
theorem mo_aw : moV 400 10 50 400 [(0, 500)] 2 = (419000, 0) := by decide +kernel
set_option maxHeartbeats 800000 in
theorem three_any (w : World) : Calls Tryd.prog 69 #[] w fun e w' =>
    e = .returned (.slice (some ⟨w.heap.size, 0, none⟩) 3 3) ∧ w' = w.alloc (.cells #[.int .i64 36, .int .i64 43, .int .i64 3, .int .i64 2, .int .i64 36, .int .i64 40, .int .i64 5, .int .i64 4, .int .i64 40, .int .i64 43, .int .i64 6, .int .i64 5] 134) := by
  go_enter Tryd.func69, Tryd.ntmps69
  go_wp2_with fail
  go_ret
  exact ⟨rfl, rfl⟩
set_option maxHeartbeats 800000 in
theorem ints1_any (g g2 c c2 : Nat) (x : Int) (w : World) (a0 : w.cell? ⟨g, 0, none⟩ = some (.int .i64 x)) (b0 : w.cell? ⟨g2, 0, none⟩ = some (.int .i64 x)) :
    Calls Tryd.prog 30 #[.slice (some ⟨g, 0, none⟩) 1 c, .slice (some ⟨g2, 0, none⟩) 1 c2] w fun e w' => e = .returned (.bool true) ∧ Below w.heap.size w w' := by
  go_enter Tryd.func30, Tryd.ntmps30
  go_wp2_with fail
  refine wp_loop_rounds 2 ?_
  iterate 1 (rw [rounds_succ]; go_wp2_with fail; go_quiet (fail); go_wp2_with fail)
  rw [rounds_succ]
  go_wp2_with fail
  go_ret
  refine ⟨rfl, ?_⟩
  repeat' (first | (with_reducible exact Below.refl _ _) | (with_reducible assumption) | (with_reducible refine below_drewN ?_ _) | (with_reducible refine Below.drew ?_) | (with_reducible refine Below.setCell ?_ ?_ _) | (with_reducible refine Below.alloc ?_ ?_ _) | go_size)
/-- one row of one number, both in blocks -/
theorem rows1 {w : World} {B : Nat} {v : Value} (h : RowsO w B v [[36]]) : ∃ g c g2 c2, v = .slice (some ⟨g, 0, none⟩) 1 c ∧ w.cell? ⟨g, 0, none⟩ = some (.slice (some ⟨g2, 0, none⟩) 1 c2) ∧ w.cell? ⟨g2, 0, none⟩ = some (.int .i64 36) ∧ g < w.heap.size ∧ g2 < w.heap.size := by
  obtain ⟨vs, ⟨hl, h1⟩, h2, h3⟩ := h
  have hj : (0 : Nat) < vs.length := by rw [h2]; exact Nat.zero_lt_one
  have h4 := h3 0 Nat.zero_lt_one hj
  rcases h1 with ⟨_, h⟩ | ⟨g, c, cur, rfl, _, hg, _, _, hs, ht⟩
  · simp at h
  · obtain ⟨_, h5⟩ := h4
    rcases h5 with ⟨_, h⟩ | ⟨g2, c2, cur2, hv, _, hg2, _, _, hs2, ht2⟩
    · simp at h
    · refine ⟨g, c, g2, c2, rfl, ?_, ?_, (Array.getElem?_eq_some_iff.1 hg).1, (Array.getElem?_eq_some_iff.1 hg2).1⟩
      · rw [cell_of_row w g 0 cur _ (0, 0) hg, ← Array.getElem?_toList]
        have e : (cur.toList.take (1 * 1))[0]? = vs[0]? := by rw [show 1 * 1 = [[(36 : Int)]].length * 1 from rfl, ht]
        rw [List.getElem?_take_of_lt (by omega)] at e
        rw [e, List.getElem?_eq_getElem hj, hv]
        rfl
      · rw [cell_of_row w g2 0 cur2 _ (0, 0) hg2, ← Array.getElem?_toList]
        have e : (cur2.toList.take (1 * 1))[0]? = ([36].map (Value.int .i64))[0]? := congrArg (fun l => l[0]?) ht2
        rw [List.getElem?_take_of_lt (by omega)] at e
        rw [e]
        rfl
/-- Least at the three tests -/
theorem least_aw (b b2 : Nat) (w : World) (hp : PrimesT w) (hs : Box w b #[.int .i64 36, .int .i64 43, .int .i64 3, .int .i64 2, .int .i64 36, .int .i64 40, .int .i64 5, .int .i64 4, .int .i64 40, .int .i64 43, .int .i64 6, .int .i64 5] 134) (hf : Box w b2 #[.int .i64 0, .int .i64 1] 3) :
    Calls Tryd.prog 62 #[.slice (some ⟨b, 0, none⟩) 3 3, .slice (some ⟨b2, 0, none⟩) 2 2] w fun e w' => (∃ v, e = .returned (.tuple #[v, .int .i64 0]) ∧ RowsO w' w.heap.size v [[36]]) ∧ Below w.heap.size w w' := by
  refine (least_any l3 (some ⟨b, 0, none⟩) 3 [0, 1] (some ⟨b2, 0, none⟩) 2 w (by decide) (by decide) hp ?_ ?_).mono ?_
  · refine .inr ⟨b, 0, rfl, hs.lt, fun j hj => ?_⟩
    have hj : j < 3 := hj
    rcases (show j = 0 ∨ j = 1 ∨ j = 2 by omega) with rfl | rfl | rfl <;> exact ⟨hs.cell _, hs.cell _, hs.cell _, hs.cell _⟩
  · refine .inr ⟨b2, 0, rfl, hf.lt, fun j hj => ?_⟩
    have hj : j < 2 := hj
    rcases (show j = 0 ∨ j = 1 by omega) with rfl | rfl <;> exact hf.cell _
  · rintro e w' ⟨h, hB⟩
    refine ⟨?_, hB⟩
    rw [if_pos l3_ok] at h
    unfold LsOk at h
    rw [if_neg (by rw [l3_nts]; decide), l3_nts] at h
    rcases h with ⟨k, hk, h1, h2, v, rfl, h3⟩ | ⟨h1, _⟩
    · rcases (show k = 0 ∨ k = 1 ∨ 1 < k by omega) with rfl | rfl | hk1
      · exact absurd l3_e0 h2
      · rw [l3_e1] at h3; exact ⟨v, rfl, h3⟩
      · have := h1 1 hk1; rw [l3_e1] at this; cases this
    · have := h1 1 (by omega); rw [l3_e1] at this; cases this
set_option maxRecDepth 100000 in
set_option maxHeartbeats 3200000 in
theorem awake7_any (w : World) (hp : PrimesT w) : Calls Tryd.prog 15 #[] w fun e w' => e = .returned (.bool true) ∧ Below w.heap.size w w' := by
  have HP := Lib.hid hp; clear hp
  have CP := Lib.hid (fun u => passes_any 10000 200 500 u)
  rw [pa_aw] at CP
  have CM := Lib.hid (fun a cap u h => moisture_any 400 10 50 400 [(0, 500)] a cap 2 u (by decide) h)
  rw [mo_aw] at CM
  go_enter Tryd.func15, Tryd.ntmps15
  go_wp2_with fail
  refine (three_any _).mono ?_
  rintro e w1 ⟨rfl, hw1⟩
  have B1 : Below w.heap.size w w1 := by rw [hw1]; (repeat' (first | (with_reducible exact Below.refl _ _) | (with_reducible assumption) | (with_reducible refine Below.drew ?_) | (with_reducible refine below_drewN ?_ _) | (with_reducible refine Below.setCell ?_ ?_ _) | (with_reducible refine Below.alloc ?_ ?_ _) | go_size | omega))
  have T1 : Box w1 w.heap.size #[.int .i64 36, .int .i64 43, .int .i64 3, .int .i64 2, .int .i64 36, .int .i64 40, .int .i64 5, .int .i64 4, .int .i64 40, .int .i64 43, .int .i64 6, .int .i64 5] 134 := by rw [hw1]; exact Box.new w _ _ rfl
  have z1 := B1.size
  clear hw1
  have T1h := Lib.hid T1; clear T1
  go_wp2_with fail
  have LA := Lib.hid (least_aw w.heap.size w1.heap.size (w1.alloc (.cells #[.int .i64 0, .int .i64 1] 3)) ((HP.out.keep B1).keep (by (repeat' (first | (with_reducible exact Below.refl _ _) | (with_reducible assumption) | (with_reducible refine Below.drew ?_) | (with_reducible refine below_drewN ?_ _) | (with_reducible refine Below.setCell ?_ ?_ _) | (with_reducible refine Below.alloc ?_ ?_ _) | go_size | omega)))) (T1h.out.alloc _) (Box.new w1 _ _ rfl))
  refine LA.out.mono ?_
  rintro e w2 ⟨⟨v, rfl, hR⟩, h2⟩
  have B2 : Below w.heap.size w w2 := below_via (by (repeat' (first | (with_reducible exact Below.refl _ _) | (with_reducible assumption) | (with_reducible refine Below.drew ?_) | (with_reducible refine below_drewN ?_ _) | (with_reducible refine Below.setCell ?_ ?_ _) | (with_reducible refine Below.alloc ?_ ?_ _) | go_size | omega))) h2
  have R2 := Lib.hid hR
  have z2 := B2.size
  clear h2 hR T1h LA
  go_wp2_with fail
  refine (CP.out _).mono ?_
  rintro e w3 ⟨rfl, h3⟩
  have B3 : Below w.heap.size w w3 := below_via (by (repeat' (first | (with_reducible exact Below.refl _ _) | (with_reducible assumption) | (with_reducible refine Below.drew ?_) | (with_reducible refine below_drewN ?_ _) | (with_reducible refine Below.setCell ?_ ?_ _) | (with_reducible refine Below.alloc ?_ ?_ _) | go_size | omega))) h3
  have R3 := Lib.hid (R2.out.keep h3)
  have z3 := B3.size
  clear h3 R2 B2 CP
  go_wp2_with fail
  have LM := Lib.hid (CM.out (some ⟨w3.heap.size, 0, none⟩) 1 (w3.alloc (.cells #[.int .i64 0, .int .i64 500] 52)) (.inr ⟨w3.heap.size, 0, rfl, by simp, fun j hj => by
    have hj : j < 1 := hj
    obtain rfl : j = 0 := by omega
    exact ⟨(Box.new w3 #[.int .i64 0, .int .i64 500] 52 rfl).cell 0, (Box.new w3 #[.int .i64 0, .int .i64 500] 52 rfl).cell 1⟩⟩))
  refine LM.out.mono ?_
  rintro e w4 ⟨rfl, h4⟩
  have B4 : Below w.heap.size w w4 := below_via (by (repeat' (first | (with_reducible exact Below.refl _ _) | (with_reducible assumption) | (with_reducible refine Below.drew ?_) | (with_reducible refine below_drewN ?_ _) | (with_reducible refine Below.setCell ?_ ?_ _) | (with_reducible refine Below.alloc ?_ ?_ _) | go_size | omega))) h4
  have R4 := Lib.hid ((R3.out.keep (by (repeat' (first | (with_reducible exact Below.refl _ _) | (with_reducible assumption) | (with_reducible refine Below.drew ?_) | (with_reducible refine below_drewN ?_ _) | (with_reducible refine Below.setCell ?_ ?_ _) | (with_reducible refine Below.alloc ?_ ?_ _) | go_size | omega)))).keep h4)
  obtain ⟨g, c, g2, c2, rfl, cg, cg2, lg, lg2⟩ := rows1 R4.out
  clear h4 R3 B3 CM R4 LM
  have X4 := Lib.hid cg2
  go_wp2_with fail
  have L5 := Lib.hid (ints1_any g2 w4.heap.size c2 1 36 (w4.alloc (.cells #[.int .i64 36] 3)) ((World.cell?_alloc_past _ _ _ lg2).trans X4.out) ((Box.new w4 #[.int .i64 36] 3 rfl).cell 0))
  refine L5.out.mono ?_
  rintro e w5 ⟨rfl, h5⟩
  have z4 := B4.size
  have B5 : Below w.heap.size w w5 := below_via (by (repeat' (first | (with_reducible exact Below.refl _ _) | (with_reducible assumption) | (with_reducible refine Below.drew ?_) | (with_reducible refine below_drewN ?_ _) | (with_reducible refine Below.setCell ?_ ?_ _) | (with_reducible refine Below.alloc ?_ ?_ _) | go_size | omega))) h5
  clear h5 L5 B4
  go_wp2_with fail
  go_ret
  exact ⟨rfl, B5⟩
end Go.Proofs.YtnjlifmjjihahaaDoor
