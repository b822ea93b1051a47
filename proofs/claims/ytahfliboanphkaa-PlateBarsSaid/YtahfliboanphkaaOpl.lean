/-
  Lists of forces, opened.
-/
import Derived.Test.YtahfliboanphkaaOp3
import Derived.Test.YtahfliboanphkaaFcl
import Derived.Deep.Slices
import Derived.Deep.Strs
import Derived.Deep.Fields
namespace Go.Proofs.Ytahfliboanphkaa
open Go.ChangeShapes Go.WideShapes Go.ChangeAt Go.RowKit Go.Joins Go.Deep
theorem cell_lt {w : World} {b o : Nat} {v : Value} (h : w.cell? ⟨b, o, none⟩ = some v) : b < w.heap.size := by
  rcases Nat.lt_or_ge b w.heap.size with h' | h'
  · exact h'
  · unfold World.cell? at h
    simp [Array.getElem?_eq_none h'] at h
set_option maxRecDepth 100000 in
theorem pulled_open {H : Type} {enc : TypeId × Value → H} {W : World} {base : Nat} {v : Value} {d : DataW H} {p : List MemPlace} (hv : Value.okWide Try.prog W .any base 22 v)
    (h0 : DataW.Trod enc Try.prog W 0 (fun _ => true) true 22 v d p) :
    ∃ (a : Option Addr) (cap : Nat) (l : List Pf), v = .slice a l.length cap ∧ PlAt W a l ∧ l.length ≤ 9223372036854775807 := by
  have hC : Try.prog.cellsOf 27 = 6 := by kernel_rfl
  have hA : Try.prog.cellsOf 23 = 3 := by kernel_rfl
  obtain ⟨a0, len, cap, rfl⟩ := okWide_slice Try.underlying22 hv
  obtain ⟨fuel, hf⟩ := h0
  rcases open_slice Try.underlying22 hf with ⟨hcs, _⟩ | ⟨x, l, c, m, n, D, Pl, hcs, _, hl, hm, hmm, _, hi⟩
  · simp [Value.cells] at hcs
    obtain ⟨rfl, rfl, rfl⟩ := hcs
    exact ⟨none, 0, [], rfl, .inl rfl, by simp⟩
  · simp [Value.cells] at hcs
    obtain ⟨rfl, rfl, rfl⟩ := hcs
    have hmc : m = cap := by simpa using hmm
    have key : ∀ i, i < len → ∃ q : Pf, W.cell? (x.add (i * 6)) = some (.int .i64 q.x) ∧ W.cell? (x.add (i * 6 + 1)) = some (.int .i64 q.y) ∧ W.cell? (x.add (i * 6 + 2)) = some (.int .i64 q.z) ∧ W.cell? (x.add (i * 6 + 3)) = some (.int .i64 q.p) ∧ W.cell? (x.add (i * 6 + 4)) = some (.int .i64 q.q) ∧ W.cell? (x.add (i * 6 + 5)) = some (.int .i64 q.r) := by
      intro i hil
      obtain ⟨cs', hc, ht⟩ := hi i (by omega)
      rw [hC] at hc
      obtain ⟨_, hcl, hat⟩ := World.cells?_some hc
      match cs', hcl with
      | [c0, c1, c2, c3, c4, c5], _ =>
        obtain ⟨xs, n', _, _, _, hlen, hg⟩ := DataW.trod_struct Try.underlying27 ht
        have g0 := hg 0 _ rfl
        have g1 := hg 1 _ rfl
        simp [hA] at g0 g1 hlen
        obtain ⟨q0, q1, q2, rfl, rfl, rfl, _, _, _⟩ := arr3_of g0 ⟨_, List.getElem?_eq_getElem (by omega)⟩
        obtain ⟨q3, q4, q5, rfl, rfl, rfl, _, _, _⟩ := arr3_of g1 ⟨_, List.getElem?_eq_getElem (by omega)⟩
        have a0 := hat 0 (by omega); have a1 := hat 1 (by omega); have a2 := hat 2 (by omega); have a3 := hat 3 (by omega); have a4 := hat 4 (by omega); have a5 := hat 5 (by omega)
        rw [add_add] at a0 a1 a2 a3 a4 a5
        exact ⟨⟨q0, q1, q2, q3, q4, q5⟩, a0, a1, a2, a3, a4, a5⟩
    have key2 : ∃ q : Nat → Pf, ∀ i, i < len → W.cell? (x.add (i * 6)) = some (.int .i64 (q i).x) ∧ W.cell? (x.add (i * 6 + 1)) = some (.int .i64 (q i).y) ∧ W.cell? (x.add (i * 6 + 2)) = some (.int .i64 (q i).z) ∧ W.cell? (x.add (i * 6 + 3)) = some (.int .i64 (q i).p) ∧ W.cell? (x.add (i * 6 + 4)) = some (.int .i64 (q i).q) ∧ W.cell? (x.add (i * 6 + 5)) = some (.int .i64 (q i).r) := by
      refine ⟨fun i => if h : i < len then Classical.choose (key i h) else ⟨0, 0, 0, 0, 0, 0⟩, fun i h => ?_⟩
      simp only [dif_pos h]
      exact Classical.choose_spec (key i h)
    obtain ⟨q, hq⟩ := key2
    have hlen : ((List.range len).map q).length = len := by simp
    refine ⟨some x, cap, (List.range len).map q, by rw [hlen], ?_, by rw [hlen]; unfold maxLen at hm; omega⟩
    by_cases h0 : len = 0
    · exact .inl (by rw [h0]; rfl)
    · obtain ⟨b, o, spot⟩ := x
      have hc := (hq 0 (by omega)).1
      have hspot : spot = none := by simpa [Addr.add] using World.cell?_spot hc
      subst hspot
      rw [addr_add] at hc
      refine .inr ⟨b, o, rfl, cell_lt hc, fun j hj => ?_⟩
      rw [hlen] at hj
      have := hq j hj
      rw [addr_add, addr_add, addr_add, addr_add, addr_add, addr_add] at this
      simpa [Nat.add_assoc] using this
set_option maxRecDepth 100000 in
theorem place_open {H : Type} {enc : TypeId × Value → H} {W : World} {base : Nat} {v : Value} {d : DataW H} {p : List MemPlace} (hv : Value.okWide Try.prog W .any base 23 v) (h0 : DataW.Trod enc Try.prog W 0 (fun _ => true) true 23 v d p) :
    ∃ a b c : Int, v = .agg #[.int .i64 a, .int .i64 b, .int .i64 c] ∧ I64 a ∧ I64 b ∧ I64 c := by
  have hA : Try.prog.cellsOf 23 = 3 := by kernel_rfl
  have hv' : ∃ cs, v = .agg cs ∧ cs.size = Try.prog.cellsOf 23 := by
    simp only [Value.okWide, Try.underlying23] at hv
    obtain ⟨cs, h1, h2, _⟩ := hv
    exact ⟨cs, h1, h2⟩
  obtain ⟨cs, rfl, hsz⟩ := hv'
  obtain ⟨l⟩ := cs
  match l, hsz.trans hA with
  | [c0, c1, c2], _ =>
    obtain ⟨fuel, hfu⟩ := h0
    simp [Value.cells] at hfu
    obtain ⟨a, b, c, rfl, rfl, rfl, ha, hb, hc⟩ := arr3_of hfu ⟨_, rfl⟩
    exact ⟨a, b, c, rfl, ha, hb, hc⟩
end Go.Proofs.Ytahfliboanphkaa
