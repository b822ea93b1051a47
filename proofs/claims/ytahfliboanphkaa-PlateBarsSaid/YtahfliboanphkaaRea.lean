/-
  The reactions of a girder.
-/
import Derived.Test.YtahfliboanphkaaItr
namespace Go.Proofs.Ytahfliboanphkaa
open Go.RowKit Go.Shelf
attribute [local go_sem] Oper.semAt_some
def stA (B s : Int) (y : Int × Int) : Int := wrap64 (s + wrap64 (y.2 * wrap64 (B - y.1)))
def stB (A s : Int) (y : Int × Int) : Int := wrap64 (s + wrap64 (y.2 * wrap64 (y.1 - A)))
def sumA (B : Int) (L : List (Int × Int)) : Int := L.foldl (stA B) 0
def sumB (A : Int) (L : List (Int × Int)) : Int := L.foldl (stB A) 0
theorem sumA_snoc (B : Int) (L : List (Int × Int)) (y : Int × Int) : sumA B (L ++ [y]) = stA B (sumA B L) y := by simp [sumA]
theorem sumB_snoc (A : Int) (L : List (Int × Int)) (y : Int × Int) : sumB A (L ++ [y]) = stB A (sumB A L) y := by simp [sumB]
set_option maxRecDepth 100000 in
set_option maxHeartbeats 2000000 in
theorem reactions_in (F : Fence) (n : Nat) (h3 : F.fn 56) (h5 : F.fn 83) (h6 : F.fn 100) (hro : F.round = none) (hn : 3 ≤ n) (g0 g1 g2 : Int) (a : Option Addr) (len cap : Nat) (L : List (Int × Int)) (hreach : L.length * 16 ≤ 140737488351232) (w : World) (hL : LoadsIn w.heap.size w (.slice a len cap) L) :
    CallsIn F n Try.prog 56 #[lad g0 g1 g2 (.slice a len cap)] w fun e W' => e = .returned (.tuple #[.int .i64 (sumA g1 (come g1 L)), .int .i64 (sumB g0 (come g1 L))]) ∧ Below w.heap.size w W' := by
  have h1 : 1 ≤ n := by omega
  refine callsIn_of_wp_marks Try.func56 rfl h3 ?_ hro
  simp only [Try.ntmps56, List.size_toArray, List.length_cons, List.length_nil, Nat.reduceAdd, Nat.reduceSub, Array.replicate_succ, Array.replicate_zero, List.push_toArray, List.append_toArray, List.nil_append, List.cons_append]
  gi_wp2_with (gi_at_call 83; refine (upTo_in F (n - 1) h5 hro _ _ _ _ _ _ _ _).mono ?_; rintro e w' ⟨rfl, rfl⟩)
  have BX0 := (((((Box.new w #[.int .i64 g0, .int .i64 g1, .int .i64 g2, .slice a len cap] 103 (n := w.heap.size) (by simp)).alloc (.cells #[.int .i64 0] 3)).alloc (.cells #[.int .i64 0] 3)).alloc (.cells #[.int .i64 g0, .int .i64 g1, .int .i64 g2, .slice a len cap] 103)).alloc (.cells #[.int .i64 g1] 3))
  have BX1 := ((((Box.new (w.alloc (.cells #[.int .i64 g0, .int .i64 g1, .int .i64 g2, .slice a len cap] 103)) #[.int .i64 0] 3 (n := w.heap.size + 1) (by simp)).alloc (.cells #[.int .i64 0] 3)).alloc (.cells #[.int .i64 g0, .int .i64 g1, .int .i64 g2, .slice a len cap] 103)).alloc (.cells #[.int .i64 g1] 3))
  have BX2 := (((Box.new ((w.alloc (.cells #[.int .i64 g0, .int .i64 g1, .int .i64 g2, .slice a len cap] 103)).alloc (.cells #[.int .i64 0] 3)) #[.int .i64 0] 3 (n := w.heap.size + 1 + 1) (by simp)).alloc (.cells #[.int .i64 g0, .int .i64 g1, .int .i64 g2, .slice a len cap] 103)).alloc (.cells #[.int .i64 g1] 3))
  have BX3 := ((Box.new (((w.alloc (.cells #[.int .i64 g0, .int .i64 g1, .int .i64 g2, .slice a len cap] 103)).alloc (.cells #[.int .i64 0] 3)).alloc (.cells #[.int .i64 0] 3)) #[.int .i64 g0, .int .i64 g1, .int .i64 g2, .slice a len cap] 103 (n := w.heap.size + 1 + 1 + 1) (by simp)).alloc (.cells #[.int .i64 g1] 3))
  have BX4 := (Box.new ((((w.alloc (.cells #[.int .i64 g0, .int .i64 g1, .int .i64 g2, .slice a len cap] 103)).alloc (.cells #[.int .i64 0] 3)).alloc (.cells #[.int .i64 0] 3)).alloc (.cells #[.int .i64 g0, .int .i64 g1, .int .i64 g2, .slice a len cap] 103)) #[.int .i64 g1] 3 (n := w.heap.size + 1 + 1 + 1 + 1) (by simp))
  have hB0 : Below w.heap.size w (((((w.alloc (.cells #[.int .i64 g0, .int .i64 g1, .int .i64 g2, .slice a len cap] 103)).alloc (.cells #[.int .i64 0] 3)).alloc (.cells #[.int .i64 0] 3)).alloc (.cells #[.int .i64 g0, .int .i64 g1, .int .i64 g2, .slice a len cap] 103)).alloc (.cells #[.int .i64 g1] 3)) := by go_grown
  have hz0 : ((((((w.alloc (.cells #[.int .i64 g0, .int .i64 g1, .int .i64 g2, .slice a len cap] 103)).alloc (.cells #[.int .i64 0] 3)).alloc (.cells #[.int .i64 0] 3)).alloc (.cells #[.int .i64 g0, .int .i64 g1, .int .i64 g2, .slice a len cap] 103)).alloc (.cells #[.int .i64 g1] 3))).heap.size = w.heap.size + 1 + 1 + 1 + 1 + 1 := by simp
  generalize (((((w.alloc (.cells #[.int .i64 g0, .int .i64 g1, .int .i64 g2, .slice a len cap] 103)).alloc (.cells #[.int .i64 0] 3)).alloc (.cells #[.int .i64 0] 3)).alloc (.cells #[.int .i64 g0, .int .i64 g1, .int .i64 g2, .slice a len cap] 103)).alloc (.cells #[.int .i64 g1] 3)) = u at *
  have p0 := BX0.cell 0; have p1 := BX0.cell 1; have p4 := BX1.cell 0; have f4 := BX1.free 0; have p5 := BX2.cell 0; have f5 := BX2.free 0; have q3 := BX3.cell 3; have q4 := BX4.cell 0
  refine wpIn_rangeFunc_ownF hro h1 (gf := 100) (lb := #[.pointer (some ⟨w.heap.size + 1 + 1 + 1, 0, none⟩), .pointer (some ⟨w.heap.size + 1 + 1 + 1 + 1, 0, none⟩)]) rfl h6 (enters_of Try.func100 (by kernel_rfl) rfl)
    (upTo_stops F (n - 1) h6 hro (by omega) (w.heap.size + 1 + 1 + 1) (w.heap.size + 1 + 1 + 1 + 1) w.heap.size (.slice a len cap) g1 L hreach u (by omega) (by omega) (by omega) q3 q4 (hL.below hB0)) Kpt.trans (Kpt.putObj (by omega) (by omega)) (Below.refl _ _) (fun _ => rfl)
    (fun pre W => (W.cell? ⟨w.heap.size, 0, none⟩ = some (.int .i64 g0) ∧ W.cell? ⟨w.heap.size, 1, none⟩ = some (.int .i64 g1) ∧ W.cell? ⟨w.heap.size + 1, 0, none⟩ = some (.int .i64 (sumA g1 pre)) ∧ W.frozen? ⟨w.heap.size + 1, 0, none⟩ = false ∧ W.cell? ⟨w.heap.size + 1 + 1, 0, none⟩ = some (.int .i64 (sumB g0 pre)) ∧ W.frozen? ⟨w.heap.size + 1 + 1, 0, none⟩ = false) ∧ Below w.heap.size w W)
    (fun _ _ _ => False)
    (OwnFrom.and (Own.from (fun s A B row hs hg hr => ⟨cell_kept hs.1 hg hr, cell_kept hs.2.1 hg hr, cell_kept hs.2.2.1 hg hr, (frozen_kept hs.2.2.1 hg hr).trans hs.2.2.2.1, cell_kept hs.2.2.2.2.1 hg hr, (frozen_kept hs.2.2.2.2.1 hg hr).trans hs.2.2.2.2.2⟩) _) (ownFrom_below (Nat.le_refl _) (by omega)))
    (fun _ _ _ _ _ hs _ _ => hs)
    ⟨⟨p0, p1, p4, f4, p5, f5⟩, hB0⟩
    (fun x => { tmps := #[lad g0 g1 g2 (.slice a len cap), .pointer (some ⟨w.heap.size, 0, none⟩), .int .i64 0, .int .i64 0, .pointer (some ⟨w.heap.size + 1, 0, none⟩), .pointer (some ⟨w.heap.size + 1 + 1, 0, none⟩), .int .i64 x.1, .int .i64 x.2, .agg #[.int .i64 g0, .int .i64 g1, .int .i64 g2, .slice a len cap], .pointer (some ⟨w.heap.size, 0, none⟩), .pointer (some ⟨w.heap.size, 1, none⟩), .int .i64 g1, .func (.func 100) #[] #[.pointer (some ⟨w.heap.size + 1 + 1 + 1, 0, none⟩), .pointer (some ⟨w.heap.size + 1 + 1 + 1 + 1, 0, none⟩)], .int .i64 x.1, .int .i64 x.2, undef, undef, undef, undef, undef, undef, undef, undef, undef, undef, undef, undef, undef, undef, undef, undef, undef, undef, undef, undef], defers := [] }) ?assign ?body ?done ?stop
  case assign =>
    intro l x W K hK
    gi_wp2
    exact hK
  case body =>
    rintro l pre x W ⟨⟨c0, c1, c4, g4, c5, g5⟩, hB⟩ _
    gi_wp2
    have hz : w.heap.size ≤ W.heap.size := hB.size
    refine ⟨(KeepsOthers.setCell _ _ _).trans (KeepsOthers.setCell _ _ _), ⟨((Below.refl w.heap.size W).setCell (p := ⟨w.heap.size + 1, 0, none⟩) (by simp) _).setCell (p := ⟨w.heap.size + 1 + 1, 0, none⟩) (by simp; omega) _, fun _ => World.cell?_of_block ((Below.heap_setCell _ _ _ _ (by first | (simp; done) | (simp; omega))).trans (Below.heap_setCell _ _ _ _ (by first | (simp; done) | (simp; omega))))⟩,
      ⟨?_, ?_, ?_, ?_, ?_, ?_⟩, (hB.setCell (p := ⟨w.heap.size + 1, 0, none⟩) (by simp) _).setCell (p := ⟨w.heap.size + 1 + 1, 0, none⟩) (by simp; omega) _⟩
    · exact (World.cell?_of_block ((Below.heap_setCell _ _ _ _ (by first | (simp; done) | (simp; omega))).trans (Below.heap_setCell _ _ _ _ (by first | (simp; done) | (simp; omega))))).trans c0
    · exact (World.cell?_of_block ((Below.heap_setCell _ _ _ _ (by first | (simp; done) | (simp; omega))).trans (Below.heap_setCell _ _ _ _ (by first | (simp; done) | (simp; omega))))).trans c1
    · rw [sumA_snoc]
      exact (World.cell?_of_block (Below.heap_setCell _ _ _ _ (by first | (simp; done) | (simp; omega)))).trans (World.cell?_setCell_same' _ _ _ (by rw [c4]; rfl))
    · rw [World.frozen?_setCell, World.frozen?_setCell]; exact g4
    · rw [sumB_snoc]
      exact World.cell?_setCell_same' _ _ _ (by rw [World.cell?_of_block (Below.heap_setCell _ _ _ _ (by first | (simp; done) | (simp; omega))), c5]; rfl)
    · rw [World.frozen?_setCell, World.frozen?_setCell]; exact g5
  case done =>
    rintro D ys W hD rfl ⟨⟨c0, c1, c4, g4, c5, g5⟩, hB⟩ hK
    gi_wp2
    gi_region
    all_goals gi_wp2
    all_goals
      refine ⟨by simp, .inl ⟨_, _, rfl, run_takeDeferred (show W.drew.heap[D]? = some (.deferred (some [])) from hK), ?_⟩⟩
      exact ⟨_, results_tmp2 rfl _ _ _, rfl, hB.drew.trans (belowK_b (w := w) (Nat.le_refl _) W.drew D _ _ (by omega) hK rfl rfl)⟩
  case stop =>
    rintro D c pre W _ _ h _
    exact h.elim
end Go.Proofs.Ytahfliboanphkaa
