/-
  Lists of torques: opened, and copied.
-/
import Derived.Test.YtnjlifmjjihahaaDoorLor
import Derived.Test.YtnjlifmjjihahaaDoorTb7
import Derived.Test.YtnjlifmjjihahaaDoorClo
import Derived.Deep.Slices
import Derived.Deep.Strs
import Derived.Deep.Fields
namespace Go.Proofs.YtnjlifmjjihahaaDoor
open Go.ChangeShapes Go.WideShapes Go.ChangeAt Go.RowKit Go.Joins Go.Deep
theorem cell_lt {w : World} {b o : Nat} {v : Value} (h : w.cell? ⟨b, o, none⟩ = some v) : b < w.heap.size := by
  rcases Nat.lt_or_ge b w.heap.size with h' | h'
  · exact h'
  · unfold World.cell? at h
    simp [Array.getElem?_eq_none h'] at h
theorem laidOut : laidOutB Tryd.prog = true := by kernel_rfl
set_option maxRecDepth 100000 in
set_option maxHeartbeats 800000 in
theorem tqs_open {H : Type} {enc : TypeId × Value → H} {W : World} {base : Nat} {v : Value} {d : DataW H} {p : List MemPlace} (hv : Value.okWide Tryd.prog W .any base 36 v)
    (h0 : DataW.Trod enc Tryd.prog W 0 (fun _ => true) true 36 v d p) :
    ∃ (a : Option Addr) (cap : Nat) (l : List (Int × Int)), v = .slice a l.length cap ∧ TqAt W a l ∧ l.length ≤ 9223372036854775807 := by
  have hC : Tryd.prog.cellsOf 114 = 2 := by kernel_rfl
  obtain ⟨a0, len, cap, rfl⟩ := okWide_slice Tryd.underlying36 hv
  obtain ⟨fuel, hf⟩ := h0
  rcases open_slice Tryd.underlying36 hf with ⟨hcs, _⟩ | ⟨x, l, c, m, n, D, Pl, hcs, _, hl, hm, hmm, _, hi⟩
  · simp [Value.cells] at hcs
    obtain ⟨rfl, rfl, rfl⟩ := hcs
    exact ⟨none, 0, [], rfl, .inl rfl, by simp⟩
  · simp [Value.cells] at hcs
    obtain ⟨rfl, rfl, rfl⟩ := hcs
    have hmc : m = cap := by simpa using hmm
    have key : ∀ i, i < len → ∃ q : Int × Int, W.cell? (x.add (i * 2)) = some (.int .i64 q.1) ∧ W.cell? (x.add (i * 2 + 1)) = some (.int .i64 q.2) := by
      intro i hil
      obtain ⟨cs', hc, ht⟩ := hi i (by omega)
      rw [hC] at hc
      obtain ⟨_, hcl, hat⟩ := World.cells?_some hc
      obtain ⟨y0, y1, n', _, _, g0, g1⟩ := trod_struct2 Tryd.underlying114 ht
      match cs', hcl with
      | [c0, c1], _ =>
        obtain ⟨q0, e0, _, _⟩ := DataW.trod_int Tryd.underlying3 g0
        obtain ⟨q1, e1, _, _⟩ := DataW.trod_int Tryd.underlying3 g1
        simp [cellsInt] at e0 e1
        subst e0; subst e1
        have a0 := hat 0 (by omega); have a1 := hat 1 (by omega)
        rw [add_add] at a0 a1
        exact ⟨⟨q0, q1⟩, a0, a1⟩
    have key2 : ∃ q : Nat → Int × Int, ∀ i, i < len → W.cell? (x.add (i * 2)) = some (.int .i64 (q i).1) ∧ W.cell? (x.add (i * 2 + 1)) = some (.int .i64 (q i).2) := by
      refine ⟨fun i => if h : i < len then Classical.choose (key i h) else ⟨0, 0⟩, fun i h => ?_⟩
      simp only [dif_pos h]
      exact Classical.choose_spec (key i h)
    obtain ⟨q, hq⟩ := key2
    have hlen : ((List.range len).map q).length = len := by simp
    refine ⟨some x, cap, (List.range len).map q, by rw [hlen], ?_, by rw [hlen]; unfold maxLen at hm; omega⟩
    by_cases h0 : len = 0
    · exact .inl (by rw [h0]; rfl)
    · obtain ⟨b, o, spot⟩ := x
      have hc := (hq 0 (by omega)).1
      have hspot : spot = none := by simpa [Addr.add] using World.cell?_spot hc
      subst hspot
      rw [addr_add] at hc
      refine .inr ⟨b, o, rfl, cell_lt hc, fun j hj => ?_⟩
      rw [hlen] at hj
      have := hq j hj
      rw [addr_add, addr_add] at this
      simpa [Nat.add_assoc] using this
def tqc (l : List (Int × Int)) : List Value := l.flatMap fun x => [.int .i64 x.1, .int .i64 x.2]
theorem tqc_len (l : List (Int × Int)) : (tqc l).length = l.length * 2 := by
  induction l with
  | nil => rfl
  | cons y t ih => unfold tqc at *; rw [List.flatMap_cons, List.length_append, ih]; simp; omega
theorem tqc_get (l : List (Int × Int)) : ∀ (j : Nat) (hj : j < l.length), (tqc l)[j * 2]? = some (.int .i64 (l[j]).1) ∧ (tqc l)[j * 2 + 1]? = some (.int .i64 (l[j]).2) := by
  induction l with
  | nil => intro j hj; simp at hj
  | cons y t ih =>
    intro j hj
    cases j with
    | zero => simp [tqc]
    | succ j =>
      have := ih j (by simpa using hj)
      unfold tqc at *
      rw [List.flatMap_cons]
      rw [show (j + 1) * 2 = j * 2 + 1 + 1 by omega]
      simpa using this
theorem tqc_one (l : List (Int × Int)) : ∀ u ∈ tqc l, u.oneCell' = true := by
  intro u hu
  unfold tqc at hu
  rw [List.mem_flatMap] at hu
  obtain ⟨p, _, hu⟩ := hu
  simp at hu
  rcases hu with rfl | rfl <;> rfl
theorem tqc_cells {w : World} {b o : Nat} {l : List (Int × Int)} (h : ∀ j (h : j < l.length), w.cell? ⟨b, o + j * 2, none⟩ = some (.int .i64 (l[j]).1) ∧ w.cell? ⟨b, o + j * 2 + 1, none⟩ = some (.int .i64 (l[j]).2)) : ∀ j u, (tqc l)[j]? = some u → w.cell? ((⟨b, o, none⟩ : Addr).add j) = some u := by
  intro j u hu
  have hj : j < (tqc l).length := (List.getElem?_eq_some_iff.1 hu).1
  rw [tqc_len] at hj
  obtain ⟨h0, h1⟩ := h (j / 2) (by omega)
  obtain ⟨g0, g1⟩ := tqc_get l (j / 2) (by omega)
  rw [addr_add]
  rcases (show j % 2 = 0 ∨ j % 2 = 1 by omega) with e | e
  · rw [show j = j / 2 * 2 by omega] at hu ⊢; rw [← hu, g0]; exact h0
  · rw [show j = j / 2 * 2 + 1 by omega] at hu ⊢; rw [← hu, g1, ← Nat.add_assoc]; exact h1
theorem tqAt_row {w : World} {base g cap : Nat} {l : List (Int × Int)} (hg : g < w.heap.size) (h : w.ownsRow base 114 2 (.slice (some ⟨g, 0, none⟩) l.length cap) l.length (tqc l)) : TqAt w (some ⟨g, 0, none⟩) l := by
  refine .inr ⟨g, 0, rfl, hg, fun j hj => ?_⟩
  obtain ⟨g0, g1⟩ := tqc_get l j hj
  have c0 := h.cells rfl _ _ g0; have c1 := h.cells rfl _ _ g1
  rw [addr_add] at c0 c1
  exact ⟨c0, c1⟩
theorem infoTq : (Tryd.prog.info? 114).map (fun i => (i.zero, i.size, i.bytes)) = some (some (.agg #[.int .i64 0, .int .i64 0]), 2, 16) := by kernel_rfl
end Go.Proofs.YtnjlifmjjihahaaDoor
