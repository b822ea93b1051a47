/-
  Shear and bending of a girder, by the loads that come.
-/
import Derived.Test.YtnfpmaenikhoaaaBsm
import Derived.Test.YtnfpmaenikhoaaaRea
import Derived.Test.YtnfpmaenikhoaaaRnd
namespace Go.Proofs.Ytnfpmaenikhoaaa
open Go.RowKit Go.Shelf
attribute [local go_sem] Oper.semAt_some
theorem liUp' {w w' : World} {sv : Value} {L : List (Int × Int)} (h : LoadsIn w.heap.size w sv L) (hb : Below w.heap.size w w') : LoadsIn w'.heap.size w' sv L := by
  rcases h with h | ⟨b, o, c, e1, e2, e3⟩
  · exact .inl h
  · exact .inr ⟨b, o, c, e1, Nat.lt_of_lt_of_le e2 hb.size, e3.below hb e2⟩
theorem keeps_below {W W' : World} (h : Below W.heap.size W W') : KeepsOthers W W' := ⟨h.size, fun k o hk _ => (h.block k (by
  rcases Nat.lt_or_ge k W.heap.size with h' | h'
  · exact h'
  · rw [Array.getElem?_eq_none h'] at hk; cases hk)).trans hk⟩
set_option maxHeartbeats 1000000 in
theorem width_in (F : Fence) (n : Nat) (h7 : F.fn 88) (hro : F.round = none) (g0 g1 g2 : Int) (a : Option Addr) (len cap : Nat) (w : World) (h0 : -20000 ≤ g0 ∧ g0 ≤ 20000) (h1 : -20000 ≤ g1 ∧ g1 ≤ 20000) :
    CallsIn F n Try.prog 88 #[lad g0 g1 g2 (.slice a len cap)] w fun e w' => e = .returned (.int .i64 (g1 - g0)) ∧ Below w.heap.size w w' := by
  obtain ⟨x0, x1⟩ := h0; obtain ⟨y0, y1⟩ := h1
  refine callsIn_of_wp Try.func88 rfl h7 ?_ hro
  simp only [Try.ntmps88, List.size_toArray, List.length_cons, List.length_nil, Nat.reduceAdd, Nat.reduceSub, Array.replicate_succ, Array.replicate_zero, List.push_toArray, List.append_toArray, List.nil_append, List.cons_append]
  gi_wp2
  go_ret
  exact ⟨rfl, by (repeat' (first | (with_reducible exact Below.refl _ _) | (with_reducible assumption) | (with_reducible refine Below.drew ?_) | (with_reducible refine below_drewN ?_ _) | (with_reducible refine Below.setCell ?_ ?_ _) | (with_reducible refine Below.alloc ?_ ?_ _) | go_size | omega))⟩
set_option maxRecDepth 100000 in
set_option maxHeartbeats 2000000 in
theorem shear_in (F : Fence) (n : Nat) (h2 : F.fn 84) (h3 : F.fn 74) (h4 : F.fn 88) (h5 : F.fn 105) (h6 : F.fn 119) (hro : F.round = none) (hn : 4 ≤ n) (g0 g1 g2 x : Int) (a : Option Addr) (len cap : Nat) (L : List (Int × Int)) (hreach : L.length * 16 ≤ 140737488351232) (w : World) (hL : LoadsIn w.heap.size w (.slice a len cap) L) (w0 : -20000 ≤ g0 ∧ g0 ≤ 20000) (w1 : -20000 ≤ g1 ∧ g1 ≤ 20000) (s : Int) (hs : sumA g1 (come g1 L) = s) (t : Int) (ht : sumB g0 (come g1 L) = t) :
    CallsIn F n Try.prog 84 #[lad g0 g1 g2 (.slice a len cap), .int .i64 x] w fun e W' => e = .returned (.int .i64 (foS (g1 - g0) s (come x L))) ∧ Below w.heap.size w W' := by
  have h1 : 1 ≤ n := by omega
  have CR := Lib.hid (fun u h => reactions_in F (n - 1) h3 h5 h6 hro (by omega) g0 g1 g2 a len cap L hreach u h)
  rw [hs, ht] at CR
  have HL := Lib.hid hL; clear hL
  refine callsIn_of_wp_marks Try.func84 rfl h2 ?_ hro
  simp only [Try.ntmps84, List.size_toArray, List.length_cons, List.length_nil, Nat.reduceAdd, Nat.reduceSub, Array.replicate_succ, Array.replicate_zero, List.push_toArray, List.append_toArray, List.nil_append, List.cons_append]
  gi_wp2_with (gi_at_call 74; refine (CR.out _ (liUp' HL.out (by (repeat' (first | (with_reducible exact Below.refl _ _) | (with_reducible assumption) | (with_reducible refine Below.drew ?_) | (with_reducible refine below_drewN ?_ _) | (with_reducible refine Below.setCell ?_ ?_ _) | (with_reducible refine Below.alloc ?_ ?_ _) | go_size | omega))))).mono ?_; rintro e w2 ⟨rfl, h⟩; have B2 : Below w.heap.size w w2 := below_via (by (repeat' (first | (with_reducible exact Below.refl _ _) | (with_reducible assumption) | (with_reducible refine Below.drew ?_) | (with_reducible refine below_drewN ?_ _) | (with_reducible refine Below.setCell ?_ ?_ _) | (with_reducible refine Below.alloc ?_ ?_ _) | go_size | omega))) h; have D2 := Lib.hid ((Box.new w #[.int .i64 g0, .int .i64 g1, .int .i64 g2, .slice a len cap] 119 (n := w.heap.size) rfl).keep h); have z2 := h.size; simp at z2; clear h; obtain ⟨d0, d1, d2, d3, -⟩ := D2.out.four; have ld := D2.out.lt)
  gi_at_call 105
  refine (upTo_in F (n - 1) h5 hro _ _ _ _ _ _ _ _).mono ?_
  rintro e w' ⟨rfl, rfl⟩
  gi_wp2
  have A1 := Lib.hid ((((Box.new w2 #[.int .i64 s] 3 (n := w2.heap.size) rfl).alloc (.cells #[.int .i64 g0, .int .i64 g1, .int .i64 g2, .slice a len cap] 119)).alloc (.cells #[.int .i64 x] 3)))
  have A2 := Lib.hid (((Box.new (w2.alloc (.cells #[.int .i64 s] 3)) #[.int .i64 g0, .int .i64 g1, .int .i64 g2, .slice a len cap] 119 (n := w2.heap.size + 1) (by simp)).alloc (.cells #[.int .i64 x] 3)))
  have A3 := Lib.hid ((Box.new ((w2.alloc (.cells #[.int .i64 s] 3)).alloc (.cells #[.int .i64 g0, .int .i64 g1, .int .i64 g2, .slice a len cap] 119)) #[.int .i64 x] 3 (n := w2.heap.size + 1 + 1) (by simp)))
  have A0 := Lib.hid (((D2.out.alloc (.cells #[.int .i64 s] 3)).alloc (.cells #[.int .i64 g0, .int .i64 g1, .int .i64 g2, .slice a len cap] 119)).alloc (.cells #[.int .i64 x] 3))
  have hB0 : Below w.heap.size w (((w2.alloc (.cells #[.int .i64 s] 3)).alloc (.cells #[.int .i64 g0, .int .i64 g1, .int .i64 g2, .slice a len cap] 119)).alloc (.cells #[.int .i64 x] 3)) := by (repeat' (first | (with_reducible exact Below.refl _ _) | (with_reducible assumption) | (with_reducible refine Below.drew ?_) | (with_reducible refine below_drewN ?_ _) | (with_reducible refine Below.setCell ?_ ?_ _) | (with_reducible refine Below.alloc ?_ ?_ _) | go_size | omega))
  have hz0 : (((w2.alloc (.cells #[.int .i64 s] 3)).alloc (.cells #[.int .i64 g0, .int .i64 g1, .int .i64 g2, .slice a len cap] 119)).alloc (.cells #[.int .i64 x] 3)).heap.size = w2.heap.size + 1 + 1 + 1 := by simp
  generalize (((w2.alloc (.cells #[.int .i64 s] 3)).alloc (.cells #[.int .i64 g0, .int .i64 g1, .int .i64 g2, .slice a len cap] 119)).alloc (.cells #[.int .i64 x] 3)) = u at *
  clear d0 d1 d2 d3 CR 
  have p0 := A0.out.cell 0; have p1 := A0.out.cell 1; have p2 := A0.out.cell 2; have p3 := A0.out.cell 3; have q0 := A1.out.cell 0; have f0 := A1.out.free 0; have q3 := A2.out.cell 3; have q4 := A3.out.cell 0
  simp at p0 p1 p2 p3 q0 q3 q4
  refine wpIn_rangeFunc_ownF hro h1 (gf := 119) (lb := #[.pointer (some ⟨w2.heap.size + 1, 0, none⟩), .pointer (some ⟨w2.heap.size + 1 + 1, 0, none⟩)]) rfl h6 (enters_of Try.func119 (by kernel_rfl) rfl)
    (upTo_stops F (n - 1) h6 hro (by omega) (w2.heap.size + 1) (w2.heap.size + 1 + 1) w.heap.size (.slice a len cap) x L hreach u (by omega) (by omega) (by omega) q3 q4 (HL.out.below hB0)) Kpt.trans (Kpt.putObj (by omega) (by omega)) (Below.refl _ _) (fun _ => rfl)
    (fun pre W => (W.cell? ⟨w.heap.size, 0, none⟩ = some (.int .i64 g0) ∧ W.cell? ⟨w.heap.size, 1, none⟩ = some (.int .i64 g1) ∧ W.cell? ⟨w.heap.size, 2, none⟩ = some (.int .i64 g2) ∧ W.cell? ⟨w.heap.size, 3, none⟩ = some (.slice a len cap) ∧ W.cell? ⟨w2.heap.size, 0, none⟩ = some (.int .i64 (foS (g1 - g0) s pre)) ∧ W.frozen? ⟨w2.heap.size, 0, none⟩ = false) ∧ Below w.heap.size w W)
    (fun _ _ _ => False)
    (OwnFrom.and (Own.from (fun s A B row hs hg hr => ⟨cell_kept hs.1 hg hr, cell_kept hs.2.1 hg hr, cell_kept hs.2.2.1 hg hr, cell_kept hs.2.2.2.1 hg hr, cell_kept hs.2.2.2.2.1 hg hr, (frozen_kept hs.2.2.2.2.1 hg hr).trans hs.2.2.2.2.2⟩) _) (ownFrom_below (Nat.le_refl _) (by omega)))
    (fun _ _ _ _ _ hs _ _ => hs)
    ⟨⟨p0, p1, p2, p3, q0, f0⟩, hB0⟩
    (fun y => { tmps := #[lad g0 g1 g2 (.slice a len cap), .int .i64 x, .pointer (some ⟨w.heap.size, 0, none⟩), undef, .int .i64 0, .pointer (some ⟨w2.heap.size, 0, none⟩), .int .i64 t, undef, .int .i64 y.2, .tuple #[.int .i64 s, .int .i64 t], .agg #[.int .i64 g0, .int .i64 g1, .int .i64 g2, .slice a len cap], .tuple #[.int .i64 s, .int .i64 t], .int .i64 s, .int .i64 t, .agg #[.int .i64 g0, .int .i64 g1, .int .i64 g2, .slice a len cap], .int .i64 x, .func (.func 119) #[] #[.pointer (some ⟨w2.heap.size + 1, 0, none⟩), .pointer (some ⟨w2.heap.size + 1 + 1, 0, none⟩)], .int .i64 y.1, .int .i64 y.2, undef, undef, undef, undef, undef, undef, undef], defers := [] }) ?assign ?body ?done ?stop
  case assign =>
    intro l y W K hK
    gi_wp2
    exact hK
  case body =>
    rintro l pre ⟨y1, y2⟩ W ⟨⟨c0, c1, c2, c3, cf, gf⟩, hB⟩ _
    have hz : w.heap.size ≤ W.heap.size := hB.size
    dsimp only
    gi_wp2
    have hd : 1 ≤ n - 1 - 1 := by omega
    have lf := World.block_lt_of_cell? W _ cf
    have lh := World.block_lt_of_cell? W _ c0
    dsimp only at lf lh
    gi_region_with (gi_at_call 88; refine (CallsIn.inRound l (width_in F (n - 1 - 1 - 1) h4 hro g0 g1 g2 a len cap _ w0 w1)).mono ?_; rintro e w9 ⟨rfl, h9⟩; have hB9 : Below W.heap.size W w9 := below_via (by (repeat' (first | (with_reducible exact Below.refl _ _) | (with_reducible assumption) | (with_reducible refine Below.drew ?_) | (with_reducible refine below_drewN ?_ _) | (with_reducible refine Below.setCell ?_ ?_ _) | (with_reducible refine Below.alloc ?_ ?_ _) | go_size | omega))) h9; clear h9; have hz9 := hB9.size; have cf9 := (hB9.cell (p := ⟨w2.heap.size, 0, none⟩) lf).trans cf; have gf9 := (hB9.frozen (p := ⟨w2.heap.size, 0, none⟩) lf).trans gf)
    all_goals
      gi_wp2
      refine ⟨(keeps_below hB9).trans (KeepsOthers.setCell _ _ _), ⟨(hB9.mono hz).setCell (p := ⟨w2.heap.size, 0, none⟩) (by simp; omega) _, fun hx => (World.cell?_setCell_far _ _ _ _ (by simp; omega)).trans (hB9.cell (p := ⟨w2.heap.size + 1 + 1, 0, none⟩) hx)⟩, ⟨(World.cell?_setCell_far _ _ _ _ (by simp; omega)).trans ((hB9.cell (p := ⟨w.heap.size, 0, none⟩) lh).trans c0), (World.cell?_setCell_far _ _ _ _ (by simp; omega)).trans ((hB9.cell (p := ⟨w.heap.size, 1, none⟩) lh).trans c1), (World.cell?_setCell_far _ _ _ _ (by simp; omega)).trans ((hB9.cell (p := ⟨w.heap.size, 2, none⟩) lh).trans c2), (World.cell?_setCell_far _ _ _ _ (by simp; omega)).trans ((hB9.cell (p := ⟨w.heap.size, 3, none⟩) lh).trans c3), ?_, ?_⟩, (hB.trans (hB9.mono hz)).setCell (p := ⟨w2.heap.size, 0, none⟩) (by simp; omega) _⟩
      · rw [foS_snoc]
        refine (World.cell?_setCell_same' _ _ _ (by rw [cf9]; rfl)).trans (congrArg some (congrArg (Value.int .i64) ?_))
        simp only [IntWalk.i64_left]
        rfl
      · rw [World.frozen?_setCell]; exact gf9
  case done =>
    rintro D ys W hD rfl ⟨⟨c0, c1, c2, c3, cf, gf⟩, hB⟩ hK
    gi_wp2
    refine ⟨by simp, .inl ⟨_, _, rfl, run_takeDeferred (show W.heap[D]? = some (.deferred (some [])) from hK), ?_⟩⟩
    exact ⟨_, results_tmp rfl _ _ _, rfl, hB.trans (belowK_b (w := w) (Nat.le_refl _) W D _ _ (by omega) hK rfl rfl)⟩
  case stop =>
    rintro D c pre W _ _ h _
    exact h.elim
set_option maxRecDepth 100000 in
set_option maxHeartbeats 2000000 in
theorem bending_in (F : Fence) (n : Nat) (h2 : F.fn 85) (h3 : F.fn 74) (h4 : F.fn 88) (h5 : F.fn 105) (h6 : F.fn 119) (hro : F.round = none) (hn : 4 ≤ n) (g0 g1 g2 x : Int) (a : Option Addr) (len cap : Nat) (L : List (Int × Int)) (hreach : L.length * 16 ≤ 140737488351232) (w : World) (hL : LoadsIn w.heap.size w (.slice a len cap) L) (w0 : -20000 ≤ g0 ∧ g0 ≤ 20000) (w1 : -20000 ≤ g1 ∧ g1 ≤ 20000) (s : Int) (hs : sumA g1 (come g1 L) = s) (hx : g0 ≤ x ∧ x ≤ g1) (hsb : -4000000000000 ≤ s ∧ s ≤ 4000000000000) (t : Int) (ht : sumB g0 (come g1 L) = t) :
    CallsIn F n Try.prog 85 #[lad g0 g1 g2 (.slice a len cap), .int .i64 x] w fun e W' => e = .returned (.int .i64 (foM (g1 - g0) x (s * (x - g0)) (come x L))) ∧ Below w.heap.size w W' := by
  have h1 : 1 ≤ n := by omega
  obtain ⟨x0, x1⟩ := hx
  obtain ⟨b0, b1⟩ := w0; obtain ⟨b2, b3⟩ := w1
  have w0 : -20000 ≤ g0 ∧ g0 ≤ 20000 := ⟨b0, b1⟩
  have w1 : -20000 ≤ g1 ∧ g1 ≤ 20000 := ⟨b2, b3⟩
  obtain ⟨pm0, pm1⟩ := mul_bd hsb.1 hsb.2 (show -40000 ≤ x - g0 by omega) (show x - g0 ≤ 40000 by omega)
  have CR := Lib.hid (fun u h => reactions_in F (n - 1) h3 h5 h6 hro (by omega) g0 g1 g2 a len cap L hreach u h)
  rw [hs, ht] at CR
  have HL := Lib.hid hL; clear hL
  refine callsIn_of_wp_marks Try.func85 rfl h2 ?_ hro
  simp only [Try.ntmps85, List.size_toArray, List.length_cons, List.length_nil, Nat.reduceAdd, Nat.reduceSub, Array.replicate_succ, Array.replicate_zero, List.push_toArray, List.append_toArray, List.nil_append, List.cons_append]
  gi_wp2_with (gi_at_call 74; refine (CR.out _ (liUp' HL.out (by (repeat' (first | (with_reducible exact Below.refl _ _) | (with_reducible assumption) | (with_reducible refine Below.drew ?_) | (with_reducible refine below_drewN ?_ _) | (with_reducible refine Below.setCell ?_ ?_ _) | (with_reducible refine Below.alloc ?_ ?_ _) | go_size | omega))))).mono ?_; rintro e w2 ⟨rfl, h⟩; have B2 : Below w.heap.size w w2 := below_via (by (repeat' (first | (with_reducible exact Below.refl _ _) | (with_reducible assumption) | (with_reducible refine Below.drew ?_) | (with_reducible refine below_drewN ?_ _) | (with_reducible refine Below.setCell ?_ ?_ _) | (with_reducible refine Below.alloc ?_ ?_ _) | go_size | omega))) h; have D2 := Lib.hid (((Box.new w #[.int .i64 g0, .int .i64 g1, .int .i64 g2, .slice a len cap] 119 (n := w.heap.size) rfl).alloc (.cells #[.int .i64 x] 3)).keep h); have X2 := Lib.hid ((Box.new (w.alloc (.cells #[.int .i64 g0, .int .i64 g1, .int .i64 g2, .slice a len cap] 119)) #[.int .i64 x] 3 (n := w.heap.size + 1) (by simp)).keep h); obtain ⟨xc, -⟩ := X2.out.one; have lx := X2.out.lt; have z2 := h.size; simp at z2; clear h; obtain ⟨d0, d1, d2, d3, -⟩ := D2.out.four; have ld := D2.out.lt)
  gi_at_call 105
  refine (upTo_in F (n - 1) h5 hro _ _ _ _ _ _ _ _).mono ?_
  rintro e w' ⟨rfl, rfl⟩
  gi_wp2
  have A1 := Lib.hid ((((Box.new w2 #[.int .i64 (s * (x - g0))] 3 (n := w2.heap.size) rfl).alloc (.cells #[.int .i64 g0, .int .i64 g1, .int .i64 g2, .slice a len cap] 119)).alloc (.cells #[.int .i64 x] 3)))
  have A2 := Lib.hid (((Box.new (w2.alloc (.cells #[.int .i64 (s * (x - g0))] 3)) #[.int .i64 g0, .int .i64 g1, .int .i64 g2, .slice a len cap] 119 (n := w2.heap.size + 1) (by simp)).alloc (.cells #[.int .i64 x] 3)))
  have A3 := Lib.hid ((Box.new ((w2.alloc (.cells #[.int .i64 (s * (x - g0))] 3)).alloc (.cells #[.int .i64 g0, .int .i64 g1, .int .i64 g2, .slice a len cap] 119)) #[.int .i64 x] 3 (n := w2.heap.size + 1 + 1) (by simp)))
  have A0 := Lib.hid (((D2.out.alloc (.cells #[.int .i64 (s * (x - g0))] 3)).alloc (.cells #[.int .i64 g0, .int .i64 g1, .int .i64 g2, .slice a len cap] 119)).alloc (.cells #[.int .i64 x] 3))
  have AX := Lib.hid (((X2.out.alloc (.cells #[.int .i64 (s * (x - g0))] 3)).alloc (.cells #[.int .i64 g0, .int .i64 g1, .int .i64 g2, .slice a len cap] 119)).alloc (.cells #[.int .i64 x] 3))
  have hB0 : Below w.heap.size w (((w2.alloc (.cells #[.int .i64 (s * (x - g0))] 3)).alloc (.cells #[.int .i64 g0, .int .i64 g1, .int .i64 g2, .slice a len cap] 119)).alloc (.cells #[.int .i64 x] 3)) := by (repeat' (first | (with_reducible exact Below.refl _ _) | (with_reducible assumption) | (with_reducible refine Below.drew ?_) | (with_reducible refine below_drewN ?_ _) | (with_reducible refine Below.setCell ?_ ?_ _) | (with_reducible refine Below.alloc ?_ ?_ _) | go_size | omega))
  have hz0 : (((w2.alloc (.cells #[.int .i64 (s * (x - g0))] 3)).alloc (.cells #[.int .i64 g0, .int .i64 g1, .int .i64 g2, .slice a len cap] 119)).alloc (.cells #[.int .i64 x] 3)).heap.size = w2.heap.size + 1 + 1 + 1 := by simp
  generalize (((w2.alloc (.cells #[.int .i64 (s * (x - g0))] 3)).alloc (.cells #[.int .i64 g0, .int .i64 g1, .int .i64 g2, .slice a len cap] 119)).alloc (.cells #[.int .i64 x] 3)) = u at *
  clear d0 d1 d2 d3 CR xc
  have p0 := A0.out.cell 0; have p1 := A0.out.cell 1; have p2 := A0.out.cell 2; have p3 := A0.out.cell 3; have q0 := A1.out.cell 0; have f0 := A1.out.free 0; have q3 := A2.out.cell 3; have q4 := A3.out.cell 0; have px := AX.out.cell 0
  simp at p0 p1 p2 p3 q0 q3 q4 px
  refine wpIn_rangeFunc_ownF hro h1 (gf := 119) (lb := #[.pointer (some ⟨w2.heap.size + 1, 0, none⟩), .pointer (some ⟨w2.heap.size + 1 + 1, 0, none⟩)]) rfl h6 (enters_of Try.func119 (by kernel_rfl) rfl)
    (upTo_stops F (n - 1) h6 hro (by omega) (w2.heap.size + 1) (w2.heap.size + 1 + 1) w.heap.size (.slice a len cap) x L hreach u (by omega) (by omega) (by omega) q3 q4 (HL.out.below hB0)) Kpt.trans (Kpt.putObj (by omega) (by omega)) (Below.refl _ _) (fun _ => rfl)
    (fun pre W => (W.cell? ⟨w.heap.size, 0, none⟩ = some (.int .i64 g0) ∧ W.cell? ⟨w.heap.size, 1, none⟩ = some (.int .i64 g1) ∧ W.cell? ⟨w.heap.size, 2, none⟩ = some (.int .i64 g2) ∧ W.cell? ⟨w.heap.size, 3, none⟩ = some (.slice a len cap) ∧ W.cell? ⟨w.heap.size + 1, 0, none⟩ = some (.int .i64 x) ∧ W.cell? ⟨w2.heap.size, 0, none⟩ = some (.int .i64 (foM (g1 - g0) x (s * (x - g0)) pre)) ∧ W.frozen? ⟨w2.heap.size, 0, none⟩ = false) ∧ Below w.heap.size w W)
    (fun _ _ _ => False)
    (OwnFrom.and (Own.from (fun s A B row hs hg hr => ⟨cell_kept hs.1 hg hr, cell_kept hs.2.1 hg hr, cell_kept hs.2.2.1 hg hr, cell_kept hs.2.2.2.1 hg hr, cell_kept hs.2.2.2.2.1 hg hr, cell_kept hs.2.2.2.2.2.1 hg hr, (frozen_kept hs.2.2.2.2.2.1 hg hr).trans hs.2.2.2.2.2.2⟩) _) (ownFrom_below (Nat.le_refl _) (by omega)))
    (fun _ _ _ _ _ hs _ _ => hs)
    ⟨⟨p0, p1, p2, p3, px, q0, f0⟩, hB0⟩
    (fun y => { tmps := #[lad g0 g1 g2 (.slice a len cap), .int .i64 x, .pointer (some ⟨w.heap.size, 0, none⟩), .pointer (some ⟨w.heap.size + 1, 0, none⟩), .int .i64 0, .int .i64 s, .int .i64 t, .pointer (some ⟨w2.heap.size, 0, none⟩), .int .i64 y.1, .int .i64 y.2, .tuple #[.int .i64 s, .int .i64 t], .agg #[.int .i64 g0, .int .i64 g1, .int .i64 g2, .slice a len cap], .tuple #[.int .i64 s, .int .i64 t], .int .i64 s, .int .i64 t, .int .i64 s, .int .i64 x, .pointer (some ⟨w.heap.size, 0, none⟩), .pointer (some ⟨w.heap.size, 0, none⟩), .int .i64 g0, .int .i64 (x - g0), .int .i64 (s * (x - g0)), .agg #[.int .i64 g0, .int .i64 g1, .int .i64 g2, .slice a len cap], .int .i64 x, .func (.func 119) #[] #[.pointer (some ⟨w2.heap.size + 1, 0, none⟩), .pointer (some ⟨w2.heap.size + 1 + 1, 0, none⟩)], .int .i64 y.1, .int .i64 y.2, undef, undef, undef, undef, undef, undef, undef, undef, undef, undef, undef], defers := [] }) ?assign ?body ?done ?stop
  case assign =>
    intro l y W K hK
    gi_wp2
    exact hK
  case body =>
    rintro l pre ⟨y1, y2⟩ W ⟨⟨c0, c1, c2, c3, c4, cf, gf⟩, hB⟩ _
    have hz : w.heap.size ≤ W.heap.size := hB.size
    dsimp only
    gi_wp2
    have hd : 1 ≤ n - 1 - 1 := by omega
    have lf := World.block_lt_of_cell? W _ cf
    have lh := World.block_lt_of_cell? W _ c0
    dsimp only at lf lh
    have lx := World.block_lt_of_cell? W _ c4
    dsimp only at lx
    have hwm : Try.prog.follows .mixedOrders = true := by kernel_rfl
    refine wpIn_region_any hwm ?_
    (try (change wpAnyIn _ _ _ _ _ _ _ _ _ (World.drew _)))
    refine wpAnyIn_rnd l hro (fun i o ho c => by
      rcases i with _ | _ | _ | _ | _ | _ | _ | _ | _ | _ | _ | i
      all_goals (simp at ho)
      all_goals (subst ho; simp)) _ _ _ _ ?_
    refine wpAnyIn_take (i := 1) (v := ?_) hro rfl (by kernel_rfl) (by kernel_rfl) (by kernel_rfl) (fun _ _ _ h => h) ⟨Or.inl ⟨by rfl, ?_⟩, fun _ => rfl⟩ ?_
    rotate_left 1
    · ((intro w'); (go_simp <;> with_reducible rfl))
    refine wpAnyIn_take (i := 3) (v := ?_) hro rfl (by kernel_rfl) (by kernel_rfl) (by kernel_rfl) (fun _ _ _ h => h) ⟨Or.inl ⟨by rfl, ?_⟩, fun _ => rfl⟩ ?_
    rotate_left 1
    · ((intro w'); (go_simp <;> with_reducible rfl))
    refine wpAnyIn_ready (rs := [0, 2, 6]) (by kernel_rfl) (by simp) ?_
    refine AllReadyIn.cons rfl (fun K hK => ?_) ?_
    · go_simp
      refine hK _ _ ?_
      clear hK K
      refine wpAnyIn_ready (rs := [2, 6]) (by kernel_rfl) (by simp) ?_
      refine AllReadyIn.cons rfl (fun K hK => ?_) ?_
      · go_simp
        refine hK _ _ ?_
        clear hK K
        refine wpAnyIn_take (i := 4) (v := ?_) hro rfl (by kernel_rfl) (by kernel_rfl) (by kernel_rfl) (fun _ _ _ h => h) ⟨Or.inl ⟨by rfl, ?_⟩, fun _ => rfl⟩ ?_
        rotate_left 1
        · ((intro w'); (go_simp <;> with_reducible rfl))
        refine wpAnyIn_take (i := 5) (v := ?_) hro rfl (by kernel_rfl) (by kernel_rfl) (by kernel_rfl) (fun _ _ _ h => h) ⟨Or.inl ⟨by rfl, ?_⟩, fun _ => rfl⟩ ?_
        rotate_left 1
        · ((intro w'); (go_simp <;> with_reducible rfl))
        refine wpAnyIn_ready (rs := [6]) (by kernel_rfl) (by simp) ?_
        refine AllReadyIn.cons rfl (fun K hK => ?_) ?_
        · go_simp
          refine hK _ _ ?_
          clear hK K
          refine wpAnyIn_ready (rs := [7]) (by kernel_rfl) (by simp) ?_
          refine AllReadyIn.cons rfl (fun K hK => ?_) ?_
          · go_simp
            gi_wp2_with (gi_at_call 88; refine (width_in F (n - 1 - 1 - 1) h4 hro g0 g1 g2 a len cap _ w0 w1).mono ?_; rintro e w9 ⟨rfl, h9⟩; have hB9 : Below W.heap.size W w9 := below_via (by (repeat' (first | (with_reducible exact Below.refl _ _) | (with_reducible assumption) | (with_reducible refine Below.drew ?_) | (with_reducible refine below_drewN ?_ _) | (with_reducible refine Below.setCell ?_ ?_ _) | (with_reducible refine Below.alloc ?_ ?_ _) | go_size | omega))) h9; clear h9; have hz9 := hB9.size; have cf9 := (hB9.cell (p := ⟨w2.heap.size, 0, none⟩) lf).trans cf; have gf9 := (hB9.frozen (p := ⟨w2.heap.size, 0, none⟩) lf).trans gf; have cx9 := (hB9.cell (p := ⟨w.heap.size + 1, 0, none⟩) lx).trans c4)
            (try (refine hK _ _ ?_))
            (try clear hK K)
            refine wpAnyIn_take (i := 8) (v := ?_) hro rfl (by kernel_rfl) (by kernel_rfl) (by kernel_rfl) (fun _ _ _ h => h) ⟨Or.inl ⟨by rfl, ?_⟩, fun _ => rfl⟩ ?_
            rotate_left 1
            · ((intro w'); (go_simp <;> with_reducible rfl))
            refine wpAnyIn_take (i := 9) (v := ?_) hro rfl (by kernel_rfl) (by kernel_rfl) (by kernel_rfl) (fun _ _ _ h => h) ⟨Or.inl ⟨by rfl, ?_⟩, fun _ => rfl⟩ ?_
            rotate_left 1
            · ((intro w'); (go_simp <;> with_reducible rfl))
            refine wpAnyIn_ready (rs := [10]) (by kernel_rfl) (by simp) ?_
            refine AllReadyIn.cons rfl (fun K hK => ?_) ?_
            · go_simp
              refine hK _ _ ?_
              clear hK K
              refine wpAnyIn_done (by kernel_rfl) ?_ _
              gi_wp2
              refine ⟨(keeps_below hB9).trans (KeepsOthers.setCell _ _ _), ⟨(hB9.mono hz).setCell (p := ⟨w2.heap.size, 0, none⟩) (by simp; omega) _, fun hx => (World.cell?_setCell_far _ _ _ _ (by simp; omega)).trans (hB9.cell (p := ⟨w2.heap.size + 1 + 1, 0, none⟩) hx)⟩, ⟨(World.cell?_setCell_far _ _ _ _ (by simp; omega)).trans ((hB9.cell (p := ⟨w.heap.size, 0, none⟩) lh).trans c0), (World.cell?_setCell_far _ _ _ _ (by simp; omega)).trans ((hB9.cell (p := ⟨w.heap.size, 1, none⟩) lh).trans c1), (World.cell?_setCell_far _ _ _ _ (by simp; omega)).trans ((hB9.cell (p := ⟨w.heap.size, 2, none⟩) lh).trans c2), (World.cell?_setCell_far _ _ _ _ (by simp; omega)).trans ((hB9.cell (p := ⟨w.heap.size, 3, none⟩) lh).trans c3), (World.cell?_setCell_far _ _ _ _ (by simp; omega)).trans ((hB9.cell (p := ⟨w.heap.size + 1, 0, none⟩) lx).trans c4), ?_, ?_⟩, (hB.trans (hB9.mono hz)).setCell (p := ⟨w2.heap.size, 0, none⟩) (by simp; omega) _⟩
              · rw [foM_snoc]
                refine (World.cell?_setCell_same' _ _ _ (by rw [cf9]; rfl)).trans (congrArg some (congrArg (Value.int .i64) ?_))
                simp only [IntWalk.i64_left]
                rfl
              · rw [World.frozen?_setCell]; exact gf9
            exact AllReadyIn.nil
          exact AllReadyIn.nil
        exact AllReadyIn.nil
      refine AllReadyIn.cons rfl (fun K hK => ?_) ?_
      · go_simp
        refine hK _ _ ?_
        clear hK K
        refine wpAnyIn_ready (rs := [2, 7]) (by kernel_rfl) (by simp) ?_
        refine AllReadyIn.cons rfl (fun K hK => ?_) ?_
        · go_simp
          refine hK _ _ ?_
          clear hK K
          refine wpAnyIn_take (i := 4) (v := ?_) hro rfl (by kernel_rfl) (by kernel_rfl) (by kernel_rfl) (fun _ _ _ h => h) ⟨Or.inl ⟨by rfl, ?_⟩, fun _ => rfl⟩ ?_
          rotate_left 1
          · ((intro w'); (go_simp <;> with_reducible rfl))
          refine wpAnyIn_take (i := 5) (v := ?_) hro rfl (by kernel_rfl) (by kernel_rfl) (by kernel_rfl) (fun _ _ _ h => h) ⟨Or.inl ⟨by rfl, ?_⟩, fun _ => rfl⟩ ?_
          rotate_left 1
          · ((intro w'); (go_simp <;> with_reducible rfl))
          refine wpAnyIn_ready (rs := [7]) (by kernel_rfl) (by simp) ?_
          refine AllReadyIn.cons rfl (fun K hK => ?_) ?_
          · go_simp
            gi_wp2_with (gi_at_call 88; refine (width_in F (n - 1 - 1 - 1) h4 hro g0 g1 g2 a len cap _ w0 w1).mono ?_; rintro e w9 ⟨rfl, h9⟩; have hB9 : Below W.heap.size W w9 := below_via (by (repeat' (first | (with_reducible exact Below.refl _ _) | (with_reducible assumption) | (with_reducible refine Below.drew ?_) | (with_reducible refine below_drewN ?_ _) | (with_reducible refine Below.setCell ?_ ?_ _) | (with_reducible refine Below.alloc ?_ ?_ _) | go_size | omega))) h9; clear h9; have hz9 := hB9.size; have cf9 := (hB9.cell (p := ⟨w2.heap.size, 0, none⟩) lf).trans cf; have gf9 := (hB9.frozen (p := ⟨w2.heap.size, 0, none⟩) lf).trans gf; have cx9 := (hB9.cell (p := ⟨w.heap.size + 1, 0, none⟩) lx).trans c4)
            (try (refine hK _ _ ?_))
            (try clear hK K)
            refine wpAnyIn_take (i := 8) (v := ?_) hro rfl (by kernel_rfl) (by kernel_rfl) (by kernel_rfl) (fun _ _ _ h => h) ⟨Or.inl ⟨by rfl, ?_⟩, fun _ => rfl⟩ ?_
            rotate_left 1
            · ((intro w'); (go_simp <;> with_reducible rfl))
            refine wpAnyIn_take (i := 9) (v := ?_) hro rfl (by kernel_rfl) (by kernel_rfl) (by kernel_rfl) (fun _ _ _ h => h) ⟨Or.inl ⟨by rfl, ?_⟩, fun _ => rfl⟩ ?_
            rotate_left 1
            · ((intro w'); (go_simp <;> with_reducible rfl))
            refine wpAnyIn_ready (rs := [10]) (by kernel_rfl) (by simp) ?_
            refine AllReadyIn.cons rfl (fun K hK => ?_) ?_
            · go_simp
              refine hK _ _ ?_
              clear hK K
              refine wpAnyIn_done (by kernel_rfl) ?_ _
              gi_wp2
              refine ⟨(keeps_below hB9).trans (KeepsOthers.setCell _ _ _), ⟨(hB9.mono hz).setCell (p := ⟨w2.heap.size, 0, none⟩) (by simp; omega) _, fun hx => (World.cell?_setCell_far _ _ _ _ (by simp; omega)).trans (hB9.cell (p := ⟨w2.heap.size + 1 + 1, 0, none⟩) hx)⟩, ⟨(World.cell?_setCell_far _ _ _ _ (by simp; omega)).trans ((hB9.cell (p := ⟨w.heap.size, 0, none⟩) lh).trans c0), (World.cell?_setCell_far _ _ _ _ (by simp; omega)).trans ((hB9.cell (p := ⟨w.heap.size, 1, none⟩) lh).trans c1), (World.cell?_setCell_far _ _ _ _ (by simp; omega)).trans ((hB9.cell (p := ⟨w.heap.size, 2, none⟩) lh).trans c2), (World.cell?_setCell_far _ _ _ _ (by simp; omega)).trans ((hB9.cell (p := ⟨w.heap.size, 3, none⟩) lh).trans c3), (World.cell?_setCell_far _ _ _ _ (by simp; omega)).trans ((hB9.cell (p := ⟨w.heap.size + 1, 0, none⟩) lx).trans c4), ?_, ?_⟩, (hB.trans (hB9.mono hz)).setCell (p := ⟨w2.heap.size, 0, none⟩) (by simp; omega) _⟩
              · rw [foM_snoc]
                refine (World.cell?_setCell_same' _ _ _ (by rw [cf9]; rfl)).trans (congrArg some (congrArg (Value.int .i64) ?_))
                simp only [IntWalk.i64_left]
                rfl
              · rw [World.frozen?_setCell]; exact gf9
            exact AllReadyIn.nil
          exact AllReadyIn.nil
        refine AllReadyIn.cons rfl (fun K hK => ?_) ?_
        · go_simp
          gi_wp2_with (gi_at_call 88; refine (width_in F (n - 1 - 1 - 1) h4 hro g0 g1 g2 a len cap _ w0 w1).mono ?_; rintro e w9 ⟨rfl, h9⟩; have hB9 : Below W.heap.size W w9 := below_via (by (repeat' (first | (with_reducible exact Below.refl _ _) | (with_reducible assumption) | (with_reducible refine Below.drew ?_) | (with_reducible refine below_drewN ?_ _) | (with_reducible refine Below.setCell ?_ ?_ _) | (with_reducible refine Below.alloc ?_ ?_ _) | go_size | omega))) h9; clear h9; have hz9 := hB9.size; have cf9 := (hB9.cell (p := ⟨w2.heap.size, 0, none⟩) lf).trans cf; have gf9 := (hB9.frozen (p := ⟨w2.heap.size, 0, none⟩) lf).trans gf; have cx9 := (hB9.cell (p := ⟨w.heap.size + 1, 0, none⟩) lx).trans c4)
          (try (refine hK _ _ ?_))
          (try clear hK K)
          refine wpAnyIn_ready (rs := [2]) (by kernel_rfl) (by simp) ?_
          refine AllReadyIn.cons rfl (fun K hK => ?_) ?_
          · go_simp
            refine hK _ _ ?_
            clear hK K
            refine wpAnyIn_take (i := 4) (v := ?_) hro rfl (by kernel_rfl) (by kernel_rfl) (by kernel_rfl) (fun _ _ _ h => h) ⟨Or.inl ⟨by rfl, ?_⟩, fun _ => rfl⟩ ?_
            rotate_left 1
            · ((intro w'); (go_simp <;> with_reducible rfl))
            refine wpAnyIn_take (i := 5) (v := ?_) hro rfl (by kernel_rfl) (by kernel_rfl) (by kernel_rfl) (fun _ _ _ h => h) ⟨Or.inl ⟨by rfl, ?_⟩, fun _ => rfl⟩ ?_
            rotate_left 1
            · ((intro w'); (go_simp <;> with_reducible rfl))
            refine wpAnyIn_take (i := 8) (v := ?_) hro rfl (by kernel_rfl) (by kernel_rfl) (by kernel_rfl) (fun _ _ _ h => h) ⟨Or.inl ⟨by rfl, ?_⟩, fun _ => rfl⟩ ?_
            rotate_left 1
            · ((intro w'); (go_simp <;> with_reducible rfl))
            refine wpAnyIn_take (i := 9) (v := ?_) hro rfl (by kernel_rfl) (by kernel_rfl) (by kernel_rfl) (fun _ _ _ h => h) ⟨Or.inl ⟨by rfl, ?_⟩, fun _ => rfl⟩ ?_
            rotate_left 1
            · ((intro w'); (go_simp <;> with_reducible rfl))
            refine wpAnyIn_ready (rs := [10]) (by kernel_rfl) (by simp) ?_
            refine AllReadyIn.cons rfl (fun K hK => ?_) ?_
            · go_simp
              refine hK _ _ ?_
              clear hK K
              refine wpAnyIn_done (by kernel_rfl) ?_ _
              gi_wp2
              refine ⟨(keeps_below hB9).trans (KeepsOthers.setCell _ _ _), ⟨(hB9.mono hz).setCell (p := ⟨w2.heap.size, 0, none⟩) (by simp; omega) _, fun hx => (World.cell?_setCell_far _ _ _ _ (by simp; omega)).trans (hB9.cell (p := ⟨w2.heap.size + 1 + 1, 0, none⟩) hx)⟩, ⟨(World.cell?_setCell_far _ _ _ _ (by simp; omega)).trans ((hB9.cell (p := ⟨w.heap.size, 0, none⟩) lh).trans c0), (World.cell?_setCell_far _ _ _ _ (by simp; omega)).trans ((hB9.cell (p := ⟨w.heap.size, 1, none⟩) lh).trans c1), (World.cell?_setCell_far _ _ _ _ (by simp; omega)).trans ((hB9.cell (p := ⟨w.heap.size, 2, none⟩) lh).trans c2), (World.cell?_setCell_far _ _ _ _ (by simp; omega)).trans ((hB9.cell (p := ⟨w.heap.size, 3, none⟩) lh).trans c3), (World.cell?_setCell_far _ _ _ _ (by simp; omega)).trans ((hB9.cell (p := ⟨w.heap.size + 1, 0, none⟩) lx).trans c4), ?_, ?_⟩, (hB.trans (hB9.mono hz)).setCell (p := ⟨w2.heap.size, 0, none⟩) (by simp; omega) _⟩
              · rw [foM_snoc]
                refine (World.cell?_setCell_same' _ _ _ (by rw [cf9]; rfl)).trans (congrArg some (congrArg (Value.int .i64) ?_))
                simp only [IntWalk.i64_left]
                rfl
              · rw [World.frozen?_setCell]; exact gf9
            exact AllReadyIn.nil
          exact AllReadyIn.nil
        exact AllReadyIn.nil
      exact AllReadyIn.nil
    refine AllReadyIn.cons rfl (fun K hK => ?_) ?_
    · go_simp
      refine hK _ _ ?_
      clear hK K
      refine wpAnyIn_take (i := 4) (v := ?_) hro rfl (by kernel_rfl) (by kernel_rfl) (by kernel_rfl) (fun _ _ _ h => h) ⟨Or.inl ⟨by rfl, ?_⟩, fun _ => rfl⟩ ?_
      rotate_left 1
      · ((intro w'); (go_simp <;> with_reducible rfl))
      refine wpAnyIn_take (i := 5) (v := ?_) hro rfl (by kernel_rfl) (by kernel_rfl) (by kernel_rfl) (fun _ _ _ h => h) ⟨Or.inl ⟨by rfl, ?_⟩, fun _ => rfl⟩ ?_
      rotate_left 1
      · ((intro w'); (go_simp <;> with_reducible rfl))
      refine wpAnyIn_ready (rs := [0, 6]) (by kernel_rfl) (by simp) ?_
      refine AllReadyIn.cons rfl (fun K hK => ?_) ?_
      · go_simp
        refine hK _ _ ?_
        clear hK K
        refine wpAnyIn_ready (rs := [6]) (by kernel_rfl) (by simp) ?_
        refine AllReadyIn.cons rfl (fun K hK => ?_) ?_
        · go_simp
          refine hK _ _ ?_
          clear hK K
          refine wpAnyIn_ready (rs := [7]) (by kernel_rfl) (by simp) ?_
          refine AllReadyIn.cons rfl (fun K hK => ?_) ?_
          · go_simp
            gi_wp2_with (gi_at_call 88; refine (width_in F (n - 1 - 1 - 1) h4 hro g0 g1 g2 a len cap _ w0 w1).mono ?_; rintro e w9 ⟨rfl, h9⟩; have hB9 : Below W.heap.size W w9 := below_via (by (repeat' (first | (with_reducible exact Below.refl _ _) | (with_reducible assumption) | (with_reducible refine Below.drew ?_) | (with_reducible refine below_drewN ?_ _) | (with_reducible refine Below.setCell ?_ ?_ _) | (with_reducible refine Below.alloc ?_ ?_ _) | go_size | omega))) h9; clear h9; have hz9 := hB9.size; have cf9 := (hB9.cell (p := ⟨w2.heap.size, 0, none⟩) lf).trans cf; have gf9 := (hB9.frozen (p := ⟨w2.heap.size, 0, none⟩) lf).trans gf; have cx9 := (hB9.cell (p := ⟨w.heap.size + 1, 0, none⟩) lx).trans c4)
            (try (refine hK _ _ ?_))
            (try clear hK K)
            refine wpAnyIn_take (i := 8) (v := ?_) hro rfl (by kernel_rfl) (by kernel_rfl) (by kernel_rfl) (fun _ _ _ h => h) ⟨Or.inl ⟨by rfl, ?_⟩, fun _ => rfl⟩ ?_
            rotate_left 1
            · ((intro w'); (go_simp <;> with_reducible rfl))
            refine wpAnyIn_take (i := 9) (v := ?_) hro rfl (by kernel_rfl) (by kernel_rfl) (by kernel_rfl) (fun _ _ _ h => h) ⟨Or.inl ⟨by rfl, ?_⟩, fun _ => rfl⟩ ?_
            rotate_left 1
            · ((intro w'); (go_simp <;> with_reducible rfl))
            refine wpAnyIn_ready (rs := [10]) (by kernel_rfl) (by simp) ?_
            refine AllReadyIn.cons rfl (fun K hK => ?_) ?_
            · go_simp
              refine hK _ _ ?_
              clear hK K
              refine wpAnyIn_done (by kernel_rfl) ?_ _
              gi_wp2
              refine ⟨(keeps_below hB9).trans (KeepsOthers.setCell _ _ _), ⟨(hB9.mono hz).setCell (p := ⟨w2.heap.size, 0, none⟩) (by simp; omega) _, fun hx => (World.cell?_setCell_far _ _ _ _ (by simp; omega)).trans (hB9.cell (p := ⟨w2.heap.size + 1 + 1, 0, none⟩) hx)⟩, ⟨(World.cell?_setCell_far _ _ _ _ (by simp; omega)).trans ((hB9.cell (p := ⟨w.heap.size, 0, none⟩) lh).trans c0), (World.cell?_setCell_far _ _ _ _ (by simp; omega)).trans ((hB9.cell (p := ⟨w.heap.size, 1, none⟩) lh).trans c1), (World.cell?_setCell_far _ _ _ _ (by simp; omega)).trans ((hB9.cell (p := ⟨w.heap.size, 2, none⟩) lh).trans c2), (World.cell?_setCell_far _ _ _ _ (by simp; omega)).trans ((hB9.cell (p := ⟨w.heap.size, 3, none⟩) lh).trans c3), (World.cell?_setCell_far _ _ _ _ (by simp; omega)).trans ((hB9.cell (p := ⟨w.heap.size + 1, 0, none⟩) lx).trans c4), ?_, ?_⟩, (hB.trans (hB9.mono hz)).setCell (p := ⟨w2.heap.size, 0, none⟩) (by simp; omega) _⟩
              · rw [foM_snoc]
                refine (World.cell?_setCell_same' _ _ _ (by rw [cf9]; rfl)).trans (congrArg some (congrArg (Value.int .i64) ?_))
                simp only [IntWalk.i64_left]
                rfl
              · rw [World.frozen?_setCell]; exact gf9
            exact AllReadyIn.nil
          exact AllReadyIn.nil
        exact AllReadyIn.nil
      refine AllReadyIn.cons rfl (fun K hK => ?_) ?_
      · go_simp
        refine hK _ _ ?_
        clear hK K
        refine wpAnyIn_ready (rs := [0, 7]) (by kernel_rfl) (by simp) ?_
        refine AllReadyIn.cons rfl (fun K hK => ?_) ?_
        · go_simp
          refine hK _ _ ?_
          clear hK K
          refine wpAnyIn_ready (rs := [7]) (by kernel_rfl) (by simp) ?_
          refine AllReadyIn.cons rfl (fun K hK => ?_) ?_
          · go_simp
            gi_wp2_with (gi_at_call 88; refine (width_in F (n - 1 - 1 - 1) h4 hro g0 g1 g2 a len cap _ w0 w1).mono ?_; rintro e w9 ⟨rfl, h9⟩; have hB9 : Below W.heap.size W w9 := below_via (by (repeat' (first | (with_reducible exact Below.refl _ _) | (with_reducible assumption) | (with_reducible refine Below.drew ?_) | (with_reducible refine below_drewN ?_ _) | (with_reducible refine Below.setCell ?_ ?_ _) | (with_reducible refine Below.alloc ?_ ?_ _) | go_size | omega))) h9; clear h9; have hz9 := hB9.size; have cf9 := (hB9.cell (p := ⟨w2.heap.size, 0, none⟩) lf).trans cf; have gf9 := (hB9.frozen (p := ⟨w2.heap.size, 0, none⟩) lf).trans gf; have cx9 := (hB9.cell (p := ⟨w.heap.size + 1, 0, none⟩) lx).trans c4)
            (try (refine hK _ _ ?_))
            (try clear hK K)
            refine wpAnyIn_take (i := 8) (v := ?_) hro rfl (by kernel_rfl) (by kernel_rfl) (by kernel_rfl) (fun _ _ _ h => h) ⟨Or.inl ⟨by rfl, ?_⟩, fun _ => rfl⟩ ?_
            rotate_left 1
            · ((intro w'); (go_simp <;> with_reducible rfl))
            refine wpAnyIn_take (i := 9) (v := ?_) hro rfl (by kernel_rfl) (by kernel_rfl) (by kernel_rfl) (fun _ _ _ h => h) ⟨Or.inl ⟨by rfl, ?_⟩, fun _ => rfl⟩ ?_
            rotate_left 1
            · ((intro w'); (go_simp <;> with_reducible rfl))
            refine wpAnyIn_ready (rs := [10]) (by kernel_rfl) (by simp) ?_
            refine AllReadyIn.cons rfl (fun K hK => ?_) ?_
            · go_simp
              refine hK _ _ ?_
              clear hK K
              refine wpAnyIn_done (by kernel_rfl) ?_ _
              gi_wp2
              refine ⟨(keeps_below hB9).trans (KeepsOthers.setCell _ _ _), ⟨(hB9.mono hz).setCell (p := ⟨w2.heap.size, 0, none⟩) (by simp; omega) _, fun hx => (World.cell?_setCell_far _ _ _ _ (by simp; omega)).trans (hB9.cell (p := ⟨w2.heap.size + 1 + 1, 0, none⟩) hx)⟩, ⟨(World.cell?_setCell_far _ _ _ _ (by simp; omega)).trans ((hB9.cell (p := ⟨w.heap.size, 0, none⟩) lh).trans c0), (World.cell?_setCell_far _ _ _ _ (by simp; omega)).trans ((hB9.cell (p := ⟨w.heap.size, 1, none⟩) lh).trans c1), (World.cell?_setCell_far _ _ _ _ (by simp; omega)).trans ((hB9.cell (p := ⟨w.heap.size, 2, none⟩) lh).trans c2), (World.cell?_setCell_far _ _ _ _ (by simp; omega)).trans ((hB9.cell (p := ⟨w.heap.size, 3, none⟩) lh).trans c3), (World.cell?_setCell_far _ _ _ _ (by simp; omega)).trans ((hB9.cell (p := ⟨w.heap.size + 1, 0, none⟩) lx).trans c4), ?_, ?_⟩, (hB.trans (hB9.mono hz)).setCell (p := ⟨w2.heap.size, 0, none⟩) (by simp; omega) _⟩
              · rw [foM_snoc]
                refine (World.cell?_setCell_same' _ _ _ (by rw [cf9]; rfl)).trans (congrArg some (congrArg (Value.int .i64) ?_))
                simp only [IntWalk.i64_left]
                rfl
              · rw [World.frozen?_setCell]; exact gf9
            exact AllReadyIn.nil
          exact AllReadyIn.nil
        refine AllReadyIn.cons rfl (fun K hK => ?_) ?_
        · go_simp
          gi_wp2_with (gi_at_call 88; refine (width_in F (n - 1 - 1 - 1) h4 hro g0 g1 g2 a len cap _ w0 w1).mono ?_; rintro e w9 ⟨rfl, h9⟩; have hB9 : Below W.heap.size W w9 := below_via (by (repeat' (first | (with_reducible exact Below.refl _ _) | (with_reducible assumption) | (with_reducible refine Below.drew ?_) | (with_reducible refine below_drewN ?_ _) | (with_reducible refine Below.setCell ?_ ?_ _) | (with_reducible refine Below.alloc ?_ ?_ _) | go_size | omega))) h9; clear h9; have hz9 := hB9.size; have cf9 := (hB9.cell (p := ⟨w2.heap.size, 0, none⟩) lf).trans cf; have gf9 := (hB9.frozen (p := ⟨w2.heap.size, 0, none⟩) lf).trans gf; have cx9 := (hB9.cell (p := ⟨w.heap.size + 1, 0, none⟩) lx).trans c4)
          (try (refine hK _ _ ?_))
          (try clear hK K)
          refine wpAnyIn_take (i := 8) (v := ?_) hro rfl (by kernel_rfl) (by kernel_rfl) (by kernel_rfl) (fun _ _ _ h => h) ⟨Or.inl ⟨by rfl, ?_⟩, fun _ => rfl⟩ ?_
          rotate_left 1
          · ((intro w'); (go_simp <;> with_reducible rfl))
          refine wpAnyIn_ready (rs := [0]) (by kernel_rfl) (by simp) ?_
          refine AllReadyIn.cons rfl (fun K hK => ?_) ?_
          · go_simp
            refine hK _ _ ?_
            clear hK K
            refine wpAnyIn_take (i := 9) (v := ?_) hro rfl (by kernel_rfl) (by kernel_rfl) (by kernel_rfl) (fun _ _ _ h => h) ⟨Or.inl ⟨by rfl, ?_⟩, fun _ => rfl⟩ ?_
            rotate_left 1
            · ((intro w'); (go_simp <;> with_reducible rfl))
            refine wpAnyIn_ready (rs := [10]) (by kernel_rfl) (by simp) ?_
            refine AllReadyIn.cons rfl (fun K hK => ?_) ?_
            · go_simp
              refine hK _ _ ?_
              clear hK K
              refine wpAnyIn_done (by kernel_rfl) ?_ _
              gi_wp2
              refine ⟨(keeps_below hB9).trans (KeepsOthers.setCell _ _ _), ⟨(hB9.mono hz).setCell (p := ⟨w2.heap.size, 0, none⟩) (by simp; omega) _, fun hx => (World.cell?_setCell_far _ _ _ _ (by simp; omega)).trans (hB9.cell (p := ⟨w2.heap.size + 1 + 1, 0, none⟩) hx)⟩, ⟨(World.cell?_setCell_far _ _ _ _ (by simp; omega)).trans ((hB9.cell (p := ⟨w.heap.size, 0, none⟩) lh).trans c0), (World.cell?_setCell_far _ _ _ _ (by simp; omega)).trans ((hB9.cell (p := ⟨w.heap.size, 1, none⟩) lh).trans c1), (World.cell?_setCell_far _ _ _ _ (by simp; omega)).trans ((hB9.cell (p := ⟨w.heap.size, 2, none⟩) lh).trans c2), (World.cell?_setCell_far _ _ _ _ (by simp; omega)).trans ((hB9.cell (p := ⟨w.heap.size, 3, none⟩) lh).trans c3), (World.cell?_setCell_far _ _ _ _ (by simp; omega)).trans ((hB9.cell (p := ⟨w.heap.size + 1, 0, none⟩) lx).trans c4), ?_, ?_⟩, (hB.trans (hB9.mono hz)).setCell (p := ⟨w2.heap.size, 0, none⟩) (by simp; omega) _⟩
              · rw [foM_snoc]
                refine (World.cell?_setCell_same' _ _ _ (by rw [cf9]; rfl)).trans (congrArg some (congrArg (Value.int .i64) ?_))
                simp only [IntWalk.i64_left]
                rfl
              · rw [World.frozen?_setCell]; exact gf9
            exact AllReadyIn.nil
          exact AllReadyIn.nil
        exact AllReadyIn.nil
      exact AllReadyIn.nil
    refine AllReadyIn.cons rfl (fun K hK => ?_) ?_
    · go_simp
      refine hK _ _ ?_
      clear hK K
      refine wpAnyIn_ready (rs := [0, 2, 7]) (by kernel_rfl) (by simp) ?_
      refine AllReadyIn.cons rfl (fun K hK => ?_) ?_
      · go_simp
        refine hK _ _ ?_
        clear hK K
        refine wpAnyIn_ready (rs := [2, 7]) (by kernel_rfl) (by simp) ?_
        refine AllReadyIn.cons rfl (fun K hK => ?_) ?_
        · go_simp
          refine hK _ _ ?_
          clear hK K
          refine wpAnyIn_take (i := 4) (v := ?_) hro rfl (by kernel_rfl) (by kernel_rfl) (by kernel_rfl) (fun _ _ _ h => h) ⟨Or.inl ⟨by rfl, ?_⟩, fun _ => rfl⟩ ?_
          rotate_left 1
          · ((intro w'); (go_simp <;> with_reducible rfl))
          refine wpAnyIn_take (i := 5) (v := ?_) hro rfl (by kernel_rfl) (by kernel_rfl) (by kernel_rfl) (fun _ _ _ h => h) ⟨Or.inl ⟨by rfl, ?_⟩, fun _ => rfl⟩ ?_
          rotate_left 1
          · ((intro w'); (go_simp <;> with_reducible rfl))
          refine wpAnyIn_ready (rs := [7]) (by kernel_rfl) (by simp) ?_
          refine AllReadyIn.cons rfl (fun K hK => ?_) ?_
          · go_simp
            gi_wp2_with (gi_at_call 88; refine (width_in F (n - 1 - 1 - 1) h4 hro g0 g1 g2 a len cap _ w0 w1).mono ?_; rintro e w9 ⟨rfl, h9⟩; have hB9 : Below W.heap.size W w9 := below_via (by (repeat' (first | (with_reducible exact Below.refl _ _) | (with_reducible assumption) | (with_reducible refine Below.drew ?_) | (with_reducible refine below_drewN ?_ _) | (with_reducible refine Below.setCell ?_ ?_ _) | (with_reducible refine Below.alloc ?_ ?_ _) | go_size | omega))) h9; clear h9; have hz9 := hB9.size; have cf9 := (hB9.cell (p := ⟨w2.heap.size, 0, none⟩) lf).trans cf; have gf9 := (hB9.frozen (p := ⟨w2.heap.size, 0, none⟩) lf).trans gf; have cx9 := (hB9.cell (p := ⟨w.heap.size + 1, 0, none⟩) lx).trans c4)
            (try (refine hK _ _ ?_))
            (try clear hK K)
            refine wpAnyIn_take (i := 8) (v := ?_) hro rfl (by kernel_rfl) (by kernel_rfl) (by kernel_rfl) (fun _ _ _ h => h) ⟨Or.inl ⟨by rfl, ?_⟩, fun _ => rfl⟩ ?_
            rotate_left 1
            · ((intro w'); (go_simp <;> with_reducible rfl))
            refine wpAnyIn_take (i := 9) (v := ?_) hro rfl (by kernel_rfl) (by kernel_rfl) (by kernel_rfl) (fun _ _ _ h => h) ⟨Or.inl ⟨by rfl, ?_⟩, fun _ => rfl⟩ ?_
            rotate_left 1
            · ((intro w'); (go_simp <;> with_reducible rfl))
            refine wpAnyIn_ready (rs := [10]) (by kernel_rfl) (by simp) ?_
            refine AllReadyIn.cons rfl (fun K hK => ?_) ?_
            · go_simp
              refine hK _ _ ?_
              clear hK K
              refine wpAnyIn_done (by kernel_rfl) ?_ _
              gi_wp2
              refine ⟨(keeps_below hB9).trans (KeepsOthers.setCell _ _ _), ⟨(hB9.mono hz).setCell (p := ⟨w2.heap.size, 0, none⟩) (by simp; omega) _, fun hx => (World.cell?_setCell_far _ _ _ _ (by simp; omega)).trans (hB9.cell (p := ⟨w2.heap.size + 1 + 1, 0, none⟩) hx)⟩, ⟨(World.cell?_setCell_far _ _ _ _ (by simp; omega)).trans ((hB9.cell (p := ⟨w.heap.size, 0, none⟩) lh).trans c0), (World.cell?_setCell_far _ _ _ _ (by simp; omega)).trans ((hB9.cell (p := ⟨w.heap.size, 1, none⟩) lh).trans c1), (World.cell?_setCell_far _ _ _ _ (by simp; omega)).trans ((hB9.cell (p := ⟨w.heap.size, 2, none⟩) lh).trans c2), (World.cell?_setCell_far _ _ _ _ (by simp; omega)).trans ((hB9.cell (p := ⟨w.heap.size, 3, none⟩) lh).trans c3), (World.cell?_setCell_far _ _ _ _ (by simp; omega)).trans ((hB9.cell (p := ⟨w.heap.size + 1, 0, none⟩) lx).trans c4), ?_, ?_⟩, (hB.trans (hB9.mono hz)).setCell (p := ⟨w2.heap.size, 0, none⟩) (by simp; omega) _⟩
              · rw [foM_snoc]
                refine (World.cell?_setCell_same' _ _ _ (by rw [cf9]; rfl)).trans (congrArg some (congrArg (Value.int .i64) ?_))
                simp only [IntWalk.i64_left]
                rfl
              · rw [World.frozen?_setCell]; exact gf9
            exact AllReadyIn.nil
          exact AllReadyIn.nil
        refine AllReadyIn.cons rfl (fun K hK => ?_) ?_
        · go_simp
          gi_wp2_with (gi_at_call 88; refine (width_in F (n - 1 - 1 - 1) h4 hro g0 g1 g2 a len cap _ w0 w1).mono ?_; rintro e w9 ⟨rfl, h9⟩; have hB9 : Below W.heap.size W w9 := below_via (by (repeat' (first | (with_reducible exact Below.refl _ _) | (with_reducible assumption) | (with_reducible refine Below.drew ?_) | (with_reducible refine below_drewN ?_ _) | (with_reducible refine Below.setCell ?_ ?_ _) | (with_reducible refine Below.alloc ?_ ?_ _) | go_size | omega))) h9; clear h9; have hz9 := hB9.size; have cf9 := (hB9.cell (p := ⟨w2.heap.size, 0, none⟩) lf).trans cf; have gf9 := (hB9.frozen (p := ⟨w2.heap.size, 0, none⟩) lf).trans gf; have cx9 := (hB9.cell (p := ⟨w.heap.size + 1, 0, none⟩) lx).trans c4)
          (try (refine hK _ _ ?_))
          (try clear hK K)
          refine wpAnyIn_ready (rs := [2]) (by kernel_rfl) (by simp) ?_
          refine AllReadyIn.cons rfl (fun K hK => ?_) ?_
          · go_simp
            refine hK _ _ ?_
            clear hK K
            refine wpAnyIn_take (i := 4) (v := ?_) hro rfl (by kernel_rfl) (by kernel_rfl) (by kernel_rfl) (fun _ _ _ h => h) ⟨Or.inl ⟨by rfl, ?_⟩, fun _ => rfl⟩ ?_
            rotate_left 1
            · ((intro w'); (go_simp <;> with_reducible rfl))
            refine wpAnyIn_take (i := 5) (v := ?_) hro rfl (by kernel_rfl) (by kernel_rfl) (by kernel_rfl) (fun _ _ _ h => h) ⟨Or.inl ⟨by rfl, ?_⟩, fun _ => rfl⟩ ?_
            rotate_left 1
            · ((intro w'); (go_simp <;> with_reducible rfl))
            refine wpAnyIn_take (i := 8) (v := ?_) hro rfl (by kernel_rfl) (by kernel_rfl) (by kernel_rfl) (fun _ _ _ h => h) ⟨Or.inl ⟨by rfl, ?_⟩, fun _ => rfl⟩ ?_
            rotate_left 1
            · ((intro w'); (go_simp <;> with_reducible rfl))
            refine wpAnyIn_take (i := 9) (v := ?_) hro rfl (by kernel_rfl) (by kernel_rfl) (by kernel_rfl) (fun _ _ _ h => h) ⟨Or.inl ⟨by rfl, ?_⟩, fun _ => rfl⟩ ?_
            rotate_left 1
            · ((intro w'); (go_simp <;> with_reducible rfl))
            refine wpAnyIn_ready (rs := [10]) (by kernel_rfl) (by simp) ?_
            refine AllReadyIn.cons rfl (fun K hK => ?_) ?_
            · go_simp
              refine hK _ _ ?_
              clear hK K
              refine wpAnyIn_done (by kernel_rfl) ?_ _
              gi_wp2
              refine ⟨(keeps_below hB9).trans (KeepsOthers.setCell _ _ _), ⟨(hB9.mono hz).setCell (p := ⟨w2.heap.size, 0, none⟩) (by simp; omega) _, fun hx => (World.cell?_setCell_far _ _ _ _ (by simp; omega)).trans (hB9.cell (p := ⟨w2.heap.size + 1 + 1, 0, none⟩) hx)⟩, ⟨(World.cell?_setCell_far _ _ _ _ (by simp; omega)).trans ((hB9.cell (p := ⟨w.heap.size, 0, none⟩) lh).trans c0), (World.cell?_setCell_far _ _ _ _ (by simp; omega)).trans ((hB9.cell (p := ⟨w.heap.size, 1, none⟩) lh).trans c1), (World.cell?_setCell_far _ _ _ _ (by simp; omega)).trans ((hB9.cell (p := ⟨w.heap.size, 2, none⟩) lh).trans c2), (World.cell?_setCell_far _ _ _ _ (by simp; omega)).trans ((hB9.cell (p := ⟨w.heap.size, 3, none⟩) lh).trans c3), (World.cell?_setCell_far _ _ _ _ (by simp; omega)).trans ((hB9.cell (p := ⟨w.heap.size + 1, 0, none⟩) lx).trans c4), ?_, ?_⟩, (hB.trans (hB9.mono hz)).setCell (p := ⟨w2.heap.size, 0, none⟩) (by simp; omega) _⟩
              · rw [foM_snoc]
                refine (World.cell?_setCell_same' _ _ _ (by rw [cf9]; rfl)).trans (congrArg some (congrArg (Value.int .i64) ?_))
                simp only [IntWalk.i64_left]
                rfl
              · rw [World.frozen?_setCell]; exact gf9
            exact AllReadyIn.nil
          exact AllReadyIn.nil
        exact AllReadyIn.nil
      refine AllReadyIn.cons rfl (fun K hK => ?_) ?_
      · go_simp
        refine hK _ _ ?_
        clear hK K
        refine wpAnyIn_take (i := 4) (v := ?_) hro rfl (by kernel_rfl) (by kernel_rfl) (by kernel_rfl) (fun _ _ _ h => h) ⟨Or.inl ⟨by rfl, ?_⟩, fun _ => rfl⟩ ?_
        rotate_left 1
        · ((intro w'); (go_simp <;> with_reducible rfl))
        refine wpAnyIn_take (i := 5) (v := ?_) hro rfl (by kernel_rfl) (by kernel_rfl) (by kernel_rfl) (fun _ _ _ h => h) ⟨Or.inl ⟨by rfl, ?_⟩, fun _ => rfl⟩ ?_
        rotate_left 1
        · ((intro w'); (go_simp <;> with_reducible rfl))
        refine wpAnyIn_ready (rs := [0, 7]) (by kernel_rfl) (by simp) ?_
        refine AllReadyIn.cons rfl (fun K hK => ?_) ?_
        · go_simp
          refine hK _ _ ?_
          clear hK K
          refine wpAnyIn_ready (rs := [7]) (by kernel_rfl) (by simp) ?_
          refine AllReadyIn.cons rfl (fun K hK => ?_) ?_
          · go_simp
            gi_wp2_with (gi_at_call 88; refine (width_in F (n - 1 - 1 - 1) h4 hro g0 g1 g2 a len cap _ w0 w1).mono ?_; rintro e w9 ⟨rfl, h9⟩; have hB9 : Below W.heap.size W w9 := below_via (by (repeat' (first | (with_reducible exact Below.refl _ _) | (with_reducible assumption) | (with_reducible refine Below.drew ?_) | (with_reducible refine below_drewN ?_ _) | (with_reducible refine Below.setCell ?_ ?_ _) | (with_reducible refine Below.alloc ?_ ?_ _) | go_size | omega))) h9; clear h9; have hz9 := hB9.size; have cf9 := (hB9.cell (p := ⟨w2.heap.size, 0, none⟩) lf).trans cf; have gf9 := (hB9.frozen (p := ⟨w2.heap.size, 0, none⟩) lf).trans gf; have cx9 := (hB9.cell (p := ⟨w.heap.size + 1, 0, none⟩) lx).trans c4)
            (try (refine hK _ _ ?_))
            (try clear hK K)
            refine wpAnyIn_take (i := 8) (v := ?_) hro rfl (by kernel_rfl) (by kernel_rfl) (by kernel_rfl) (fun _ _ _ h => h) ⟨Or.inl ⟨by rfl, ?_⟩, fun _ => rfl⟩ ?_
            rotate_left 1
            · ((intro w'); (go_simp <;> with_reducible rfl))
            refine wpAnyIn_take (i := 9) (v := ?_) hro rfl (by kernel_rfl) (by kernel_rfl) (by kernel_rfl) (fun _ _ _ h => h) ⟨Or.inl ⟨by rfl, ?_⟩, fun _ => rfl⟩ ?_
            rotate_left 1
            · ((intro w'); (go_simp <;> with_reducible rfl))
            refine wpAnyIn_ready (rs := [10]) (by kernel_rfl) (by simp) ?_
            refine AllReadyIn.cons rfl (fun K hK => ?_) ?_
            · go_simp
              refine hK _ _ ?_
              clear hK K
              refine wpAnyIn_done (by kernel_rfl) ?_ _
              gi_wp2
              refine ⟨(keeps_below hB9).trans (KeepsOthers.setCell _ _ _), ⟨(hB9.mono hz).setCell (p := ⟨w2.heap.size, 0, none⟩) (by simp; omega) _, fun hx => (World.cell?_setCell_far _ _ _ _ (by simp; omega)).trans (hB9.cell (p := ⟨w2.heap.size + 1 + 1, 0, none⟩) hx)⟩, ⟨(World.cell?_setCell_far _ _ _ _ (by simp; omega)).trans ((hB9.cell (p := ⟨w.heap.size, 0, none⟩) lh).trans c0), (World.cell?_setCell_far _ _ _ _ (by simp; omega)).trans ((hB9.cell (p := ⟨w.heap.size, 1, none⟩) lh).trans c1), (World.cell?_setCell_far _ _ _ _ (by simp; omega)).trans ((hB9.cell (p := ⟨w.heap.size, 2, none⟩) lh).trans c2), (World.cell?_setCell_far _ _ _ _ (by simp; omega)).trans ((hB9.cell (p := ⟨w.heap.size, 3, none⟩) lh).trans c3), (World.cell?_setCell_far _ _ _ _ (by simp; omega)).trans ((hB9.cell (p := ⟨w.heap.size + 1, 0, none⟩) lx).trans c4), ?_, ?_⟩, (hB.trans (hB9.mono hz)).setCell (p := ⟨w2.heap.size, 0, none⟩) (by simp; omega) _⟩
              · rw [foM_snoc]
                refine (World.cell?_setCell_same' _ _ _ (by rw [cf9]; rfl)).trans (congrArg some (congrArg (Value.int .i64) ?_))
                simp only [IntWalk.i64_left]
                rfl
              · rw [World.frozen?_setCell]; exact gf9
            exact AllReadyIn.nil
          exact AllReadyIn.nil
        refine AllReadyIn.cons rfl (fun K hK => ?_) ?_
        · go_simp
          gi_wp2_with (gi_at_call 88; refine (width_in F (n - 1 - 1 - 1) h4 hro g0 g1 g2 a len cap _ w0 w1).mono ?_; rintro e w9 ⟨rfl, h9⟩; have hB9 : Below W.heap.size W w9 := below_via (by (repeat' (first | (with_reducible exact Below.refl _ _) | (with_reducible assumption) | (with_reducible refine Below.drew ?_) | (with_reducible refine below_drewN ?_ _) | (with_reducible refine Below.setCell ?_ ?_ _) | (with_reducible refine Below.alloc ?_ ?_ _) | go_size | omega))) h9; clear h9; have hz9 := hB9.size; have cf9 := (hB9.cell (p := ⟨w2.heap.size, 0, none⟩) lf).trans cf; have gf9 := (hB9.frozen (p := ⟨w2.heap.size, 0, none⟩) lf).trans gf; have cx9 := (hB9.cell (p := ⟨w.heap.size + 1, 0, none⟩) lx).trans c4)
          (try (refine hK _ _ ?_))
          (try clear hK K)
          refine wpAnyIn_take (i := 8) (v := ?_) hro rfl (by kernel_rfl) (by kernel_rfl) (by kernel_rfl) (fun _ _ _ h => h) ⟨Or.inl ⟨by rfl, ?_⟩, fun _ => rfl⟩ ?_
          rotate_left 1
          · ((intro w'); (go_simp <;> with_reducible rfl))
          refine wpAnyIn_ready (rs := [0]) (by kernel_rfl) (by simp) ?_
          refine AllReadyIn.cons rfl (fun K hK => ?_) ?_
          · go_simp
            refine hK _ _ ?_
            clear hK K
            refine wpAnyIn_take (i := 9) (v := ?_) hro rfl (by kernel_rfl) (by kernel_rfl) (by kernel_rfl) (fun _ _ _ h => h) ⟨Or.inl ⟨by rfl, ?_⟩, fun _ => rfl⟩ ?_
            rotate_left 1
            · ((intro w'); (go_simp <;> with_reducible rfl))
            refine wpAnyIn_ready (rs := [10]) (by kernel_rfl) (by simp) ?_
            refine AllReadyIn.cons rfl (fun K hK => ?_) ?_
            · go_simp
              refine hK _ _ ?_
              clear hK K
              refine wpAnyIn_done (by kernel_rfl) ?_ _
              gi_wp2
              refine ⟨(keeps_below hB9).trans (KeepsOthers.setCell _ _ _), ⟨(hB9.mono hz).setCell (p := ⟨w2.heap.size, 0, none⟩) (by simp; omega) _, fun hx => (World.cell?_setCell_far _ _ _ _ (by simp; omega)).trans (hB9.cell (p := ⟨w2.heap.size + 1 + 1, 0, none⟩) hx)⟩, ⟨(World.cell?_setCell_far _ _ _ _ (by simp; omega)).trans ((hB9.cell (p := ⟨w.heap.size, 0, none⟩) lh).trans c0), (World.cell?_setCell_far _ _ _ _ (by simp; omega)).trans ((hB9.cell (p := ⟨w.heap.size, 1, none⟩) lh).trans c1), (World.cell?_setCell_far _ _ _ _ (by simp; omega)).trans ((hB9.cell (p := ⟨w.heap.size, 2, none⟩) lh).trans c2), (World.cell?_setCell_far _ _ _ _ (by simp; omega)).trans ((hB9.cell (p := ⟨w.heap.size, 3, none⟩) lh).trans c3), (World.cell?_setCell_far _ _ _ _ (by simp; omega)).trans ((hB9.cell (p := ⟨w.heap.size + 1, 0, none⟩) lx).trans c4), ?_, ?_⟩, (hB.trans (hB9.mono hz)).setCell (p := ⟨w2.heap.size, 0, none⟩) (by simp; omega) _⟩
              · rw [foM_snoc]
                refine (World.cell?_setCell_same' _ _ _ (by rw [cf9]; rfl)).trans (congrArg some (congrArg (Value.int .i64) ?_))
                simp only [IntWalk.i64_left]
                rfl
              · rw [World.frozen?_setCell]; exact gf9
            exact AllReadyIn.nil
          exact AllReadyIn.nil
        exact AllReadyIn.nil
      refine AllReadyIn.cons rfl (fun K hK => ?_) ?_
      · go_simp
        gi_wp2_with (gi_at_call 88; refine (width_in F (n - 1 - 1 - 1) h4 hro g0 g1 g2 a len cap _ w0 w1).mono ?_; rintro e w9 ⟨rfl, h9⟩; have hB9 : Below W.heap.size W w9 := below_via (by (repeat' (first | (with_reducible exact Below.refl _ _) | (with_reducible assumption) | (with_reducible refine Below.drew ?_) | (with_reducible refine below_drewN ?_ _) | (with_reducible refine Below.setCell ?_ ?_ _) | (with_reducible refine Below.alloc ?_ ?_ _) | go_size | omega))) h9; clear h9; have hz9 := hB9.size; have cf9 := (hB9.cell (p := ⟨w2.heap.size, 0, none⟩) lf).trans cf; have gf9 := (hB9.frozen (p := ⟨w2.heap.size, 0, none⟩) lf).trans gf; have cx9 := (hB9.cell (p := ⟨w.heap.size + 1, 0, none⟩) lx).trans c4)
        (try (refine hK _ _ ?_))
        (try clear hK K)
        refine wpAnyIn_ready (rs := [0, 2]) (by kernel_rfl) (by simp) ?_
        refine AllReadyIn.cons rfl (fun K hK => ?_) ?_
        · go_simp
          refine hK _ _ ?_
          clear hK K
          refine wpAnyIn_ready (rs := [2]) (by kernel_rfl) (by simp) ?_
          refine AllReadyIn.cons rfl (fun K hK => ?_) ?_
          · go_simp
            refine hK _ _ ?_
            clear hK K
            refine wpAnyIn_take (i := 4) (v := ?_) hro rfl (by kernel_rfl) (by kernel_rfl) (by kernel_rfl) (fun _ _ _ h => h) ⟨Or.inl ⟨by rfl, ?_⟩, fun _ => rfl⟩ ?_
            rotate_left 1
            · ((intro w'); (go_simp <;> with_reducible rfl))
            refine wpAnyIn_take (i := 5) (v := ?_) hro rfl (by kernel_rfl) (by kernel_rfl) (by kernel_rfl) (fun _ _ _ h => h) ⟨Or.inl ⟨by rfl, ?_⟩, fun _ => rfl⟩ ?_
            rotate_left 1
            · ((intro w'); (go_simp <;> with_reducible rfl))
            refine wpAnyIn_take (i := 8) (v := ?_) hro rfl (by kernel_rfl) (by kernel_rfl) (by kernel_rfl) (fun _ _ _ h => h) ⟨Or.inl ⟨by rfl, ?_⟩, fun _ => rfl⟩ ?_
            rotate_left 1
            · ((intro w'); (go_simp <;> with_reducible rfl))
            refine wpAnyIn_take (i := 9) (v := ?_) hro rfl (by kernel_rfl) (by kernel_rfl) (by kernel_rfl) (fun _ _ _ h => h) ⟨Or.inl ⟨by rfl, ?_⟩, fun _ => rfl⟩ ?_
            rotate_left 1
            · ((intro w'); (go_simp <;> with_reducible rfl))
            refine wpAnyIn_ready (rs := [10]) (by kernel_rfl) (by simp) ?_
            refine AllReadyIn.cons rfl (fun K hK => ?_) ?_
            · go_simp
              refine hK _ _ ?_
              clear hK K
              refine wpAnyIn_done (by kernel_rfl) ?_ _
              gi_wp2
              refine ⟨(keeps_below hB9).trans (KeepsOthers.setCell _ _ _), ⟨(hB9.mono hz).setCell (p := ⟨w2.heap.size, 0, none⟩) (by simp; omega) _, fun hx => (World.cell?_setCell_far _ _ _ _ (by simp; omega)).trans (hB9.cell (p := ⟨w2.heap.size + 1 + 1, 0, none⟩) hx)⟩, ⟨(World.cell?_setCell_far _ _ _ _ (by simp; omega)).trans ((hB9.cell (p := ⟨w.heap.size, 0, none⟩) lh).trans c0), (World.cell?_setCell_far _ _ _ _ (by simp; omega)).trans ((hB9.cell (p := ⟨w.heap.size, 1, none⟩) lh).trans c1), (World.cell?_setCell_far _ _ _ _ (by simp; omega)).trans ((hB9.cell (p := ⟨w.heap.size, 2, none⟩) lh).trans c2), (World.cell?_setCell_far _ _ _ _ (by simp; omega)).trans ((hB9.cell (p := ⟨w.heap.size, 3, none⟩) lh).trans c3), (World.cell?_setCell_far _ _ _ _ (by simp; omega)).trans ((hB9.cell (p := ⟨w.heap.size + 1, 0, none⟩) lx).trans c4), ?_, ?_⟩, (hB.trans (hB9.mono hz)).setCell (p := ⟨w2.heap.size, 0, none⟩) (by simp; omega) _⟩
              · rw [foM_snoc]
                refine (World.cell?_setCell_same' _ _ _ (by rw [cf9]; rfl)).trans (congrArg some (congrArg (Value.int .i64) ?_))
                simp only [IntWalk.i64_left]
                rfl
              · rw [World.frozen?_setCell]; exact gf9
            exact AllReadyIn.nil
          exact AllReadyIn.nil
        refine AllReadyIn.cons rfl (fun K hK => ?_) ?_
        · go_simp
          refine hK _ _ ?_
          clear hK K
          refine wpAnyIn_take (i := 4) (v := ?_) hro rfl (by kernel_rfl) (by kernel_rfl) (by kernel_rfl) (fun _ _ _ h => h) ⟨Or.inl ⟨by rfl, ?_⟩, fun _ => rfl⟩ ?_
          rotate_left 1
          · ((intro w'); (go_simp <;> with_reducible rfl))
          refine wpAnyIn_take (i := 5) (v := ?_) hro rfl (by kernel_rfl) (by kernel_rfl) (by kernel_rfl) (fun _ _ _ h => h) ⟨Or.inl ⟨by rfl, ?_⟩, fun _ => rfl⟩ ?_
          rotate_left 1
          · ((intro w'); (go_simp <;> with_reducible rfl))
          refine wpAnyIn_take (i := 8) (v := ?_) hro rfl (by kernel_rfl) (by kernel_rfl) (by kernel_rfl) (fun _ _ _ h => h) ⟨Or.inl ⟨by rfl, ?_⟩, fun _ => rfl⟩ ?_
          rotate_left 1
          · ((intro w'); (go_simp <;> with_reducible rfl))
          refine wpAnyIn_ready (rs := [0]) (by kernel_rfl) (by simp) ?_
          refine AllReadyIn.cons rfl (fun K hK => ?_) ?_
          · go_simp
            refine hK _ _ ?_
            clear hK K
            refine wpAnyIn_take (i := 9) (v := ?_) hro rfl (by kernel_rfl) (by kernel_rfl) (by kernel_rfl) (fun _ _ _ h => h) ⟨Or.inl ⟨by rfl, ?_⟩, fun _ => rfl⟩ ?_
            rotate_left 1
            · ((intro w'); (go_simp <;> with_reducible rfl))
            refine wpAnyIn_ready (rs := [10]) (by kernel_rfl) (by simp) ?_
            refine AllReadyIn.cons rfl (fun K hK => ?_) ?_
            · go_simp
              refine hK _ _ ?_
              clear hK K
              refine wpAnyIn_done (by kernel_rfl) ?_ _
              gi_wp2
              refine ⟨(keeps_below hB9).trans (KeepsOthers.setCell _ _ _), ⟨(hB9.mono hz).setCell (p := ⟨w2.heap.size, 0, none⟩) (by simp; omega) _, fun hx => (World.cell?_setCell_far _ _ _ _ (by simp; omega)).trans (hB9.cell (p := ⟨w2.heap.size + 1 + 1, 0, none⟩) hx)⟩, ⟨(World.cell?_setCell_far _ _ _ _ (by simp; omega)).trans ((hB9.cell (p := ⟨w.heap.size, 0, none⟩) lh).trans c0), (World.cell?_setCell_far _ _ _ _ (by simp; omega)).trans ((hB9.cell (p := ⟨w.heap.size, 1, none⟩) lh).trans c1), (World.cell?_setCell_far _ _ _ _ (by simp; omega)).trans ((hB9.cell (p := ⟨w.heap.size, 2, none⟩) lh).trans c2), (World.cell?_setCell_far _ _ _ _ (by simp; omega)).trans ((hB9.cell (p := ⟨w.heap.size, 3, none⟩) lh).trans c3), (World.cell?_setCell_far _ _ _ _ (by simp; omega)).trans ((hB9.cell (p := ⟨w.heap.size + 1, 0, none⟩) lx).trans c4), ?_, ?_⟩, (hB.trans (hB9.mono hz)).setCell (p := ⟨w2.heap.size, 0, none⟩) (by simp; omega) _⟩
              · rw [foM_snoc]
                refine (World.cell?_setCell_same' _ _ _ (by rw [cf9]; rfl)).trans (congrArg some (congrArg (Value.int .i64) ?_))
                simp only [IntWalk.i64_left]
                rfl
              · rw [World.frozen?_setCell]; exact gf9
            exact AllReadyIn.nil
          exact AllReadyIn.nil
        exact AllReadyIn.nil
      exact AllReadyIn.nil
    exact AllReadyIn.nil
  case done =>
    rintro D ys W hD rfl ⟨⟨c0, c1, c2, c3, c4, cf, gf⟩, hB⟩ hK
    gi_wp2
    refine ⟨by simp, .inl ⟨_, _, rfl, run_takeDeferred (show W.heap[D]? = some (.deferred (some [])) from hK), ?_⟩⟩
    exact ⟨_, results_tmp rfl _ _ _, rfl, hB.trans (belowK_b (w := w) (Nat.le_refl _) W D _ _ (by omega) hK rfl rfl)⟩
  case stop =>
    rintro D c pre W _ _ h _
    exact h.elim
end Go.Proofs.Ytnfpmaenikhoaaa
