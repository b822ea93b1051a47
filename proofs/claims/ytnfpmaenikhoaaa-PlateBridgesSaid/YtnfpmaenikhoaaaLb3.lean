/-
  The law PlateBridges over what is opened.
-/
import Derived.Test.YtnfpmaenikhoaaaLb2
import Derived.Test.YtnfpmaenikhoaaaOpl
namespace Go.Proofs.Ytnfpmaenikhoaaa
open Go.ChangeShapes Go.WideShapes Go.ChangeAt Go.RowKit Go.Joins Go.Deep
set_option maxRecDepth 100000 in
theorem bears_open {H : Type} {enc : TypeId × Value → H} {W : World} {base : Nat} {v : Value} {d : DataW H} {p : List MemPlace} (hv : Value.okWide Try.prog W .any base 87 v)
    (h0 : DataW.Trod enc Try.prog W 0 (fun _ => true) true 87 v d p) :
    ∃ (a : Option Addr) (cap : Nat) (l : List Br), v = .slice a l.length cap ∧ BrAt W a l ∧ l.length ≤ 9223372036854775807 := by
  have hC : Try.prog.cellsOf 97 = 5 := by kernel_rfl
  obtain ⟨a0, len, cap, rfl⟩ := okWide_slice Try.underlying87 hv
  obtain ⟨fuel, hf⟩ := h0
  rcases open_slice Try.underlying87 hf with ⟨hcs, _⟩ | ⟨x, l, c, m, n, D, Pl, hcs, _, hl, hm, hmm, _, hi⟩
  · simp [Value.cells] at hcs
    obtain ⟨rfl, rfl, rfl⟩ := hcs
    exact ⟨none, 0, [], rfl, .inl rfl, by simp⟩
  · simp [Value.cells] at hcs
    obtain ⟨rfl, rfl, rfl⟩ := hcs
    have hmc : m = cap := by simpa using hmm
    have key : ∀ i, i < len → ∃ q : Br, W.cell? (x.add (i * 5)) = some (.int .i64 q.f) ∧ W.cell? (x.add (i * 5 + 1)) = some (.int .i64 q.b) ∧ W.cell? (x.add (i * 5 + 2)) = some (.int .i64 q.k) ∧ W.cell? (x.add (i * 5 + 3)) = some (.int .i64 q.a) ∧ W.cell? (x.add (i * 5 + 4)) = some (.int .i64 q.h) := by
      intro i hil
      obtain ⟨cs', hc, ht⟩ := hi i (by omega)
      rw [hC] at hc
      obtain ⟨_, hcl, hat⟩ := World.cells?_some hc
      match cs', hcl with
      | [c0, c1, c2, c3, c4], _ =>
        obtain ⟨xs, n', _, _, _, hlen, hg⟩ := DataW.trod_struct Try.underlying97 ht
        have g0 := hg 0 _ rfl
        have g1 := hg 1 _ rfl
        have g2 := hg 2 _ rfl
        have g3 := hg 3 _ rfl
        have g4 := hg 4 _ rfl
        simp [Value.cells, cellsI] at g0 g1 g2 g3 g4 hlen
        obtain ⟨q0, rfl, i0⟩ := int_of g0 ⟨_, List.getElem?_eq_getElem (by omega)⟩
        obtain ⟨q1, rfl, i1⟩ := int_of g1 ⟨_, List.getElem?_eq_getElem (by omega)⟩
        obtain ⟨q2, rfl, i2⟩ := int_of g2 ⟨_, List.getElem?_eq_getElem (by omega)⟩
        obtain ⟨q3, rfl, i3⟩ := int_of g3 ⟨_, List.getElem?_eq_getElem (by omega)⟩
        obtain ⟨q4, rfl, i4⟩ := int_of g4 ⟨_, List.getElem?_eq_getElem (by omega)⟩
        have a0 := hat 0 (by omega); have a1 := hat 1 (by omega); have a2 := hat 2 (by omega); have a3 := hat 3 (by omega); have a4 := hat 4 (by omega)
        rw [add_add] at a0 a1 a2 a3 a4
        exact ⟨⟨q0, q1, q2, q3, q4⟩, a0, a1, a2, a3, a4⟩
    have key2 : ∃ q : Nat → Br, ∀ i, i < len → W.cell? (x.add (i * 5)) = some (.int .i64 (q i).f) ∧ W.cell? (x.add (i * 5 + 1)) = some (.int .i64 (q i).b) ∧ W.cell? (x.add (i * 5 + 2)) = some (.int .i64 (q i).k) ∧ W.cell? (x.add (i * 5 + 3)) = some (.int .i64 (q i).a) ∧ W.cell? (x.add (i * 5 + 4)) = some (.int .i64 (q i).h) := by
      refine ⟨fun i => if h : i < len then Classical.choose (key i h) else ⟨0, 0, 0, 0, 0⟩, fun i h => ?_⟩
      simp only [dif_pos h]
      exact Classical.choose_spec (key i h)
    obtain ⟨q, hq⟩ := key2
    have hlen : ((List.range len).map q).length = len := by simp
    refine ⟨some x, cap, (List.range len).map q, by rw [hlen], ?_, by rw [hlen]; unfold maxLen at hm; omega⟩
    by_cases h0 : len = 0
    · exact .inl (by rw [h0]; rfl)
    · obtain ⟨b, o, spot⟩ := x
      have hc := (hq 0 (by omega)).1
      have hspot : spot = none := by simpa [Addr.add] using World.cell?_spot hc
      subst hspot
      rw [addr_add] at hc
      refine .inr ⟨b, o, rfl, cell_lt hc, fun j hj => ?_⟩
      rw [hlen] at hj
      have := hq j hj
      rw [addr_add, addr_add, addr_add, addr_add, addr_add] at this
      simpa [Nat.add_assoc] using this
set_option maxRecDepth 100000 in
theorem rngs_open {H : Type} {enc : TypeId × Value → H} {W : World} {base : Nat} {v : Value} {d : DataW H} {p : List MemPlace} (hv : Value.okWide Try.prog W .any base 88 v)
    (h0 : DataW.Trod enc Try.prog W 0 (fun _ => true) true 88 v d p) :
    ∃ (a : Option Addr) (cap : Nat) (l : List (Int × Int)), v = .slice a l.length cap ∧ LdAt W a l ∧ l.length ≤ 9223372036854775807 := by
  have hC : Try.prog.cellsOf 90 = 2 := by kernel_rfl
  obtain ⟨a0, len, cap, rfl⟩ := okWide_slice Try.underlying88 hv
  obtain ⟨fuel, hf⟩ := h0
  rcases open_slice Try.underlying88 hf with ⟨hcs, _⟩ | ⟨x, l, c, m, n, D, Pl, hcs, _, hl, hm, hmm, _, hi⟩
  · simp [Value.cells] at hcs
    obtain ⟨rfl, rfl, rfl⟩ := hcs
    exact ⟨none, 0, [], rfl, .inl rfl, by simp⟩
  · simp [Value.cells] at hcs
    obtain ⟨rfl, rfl, rfl⟩ := hcs
    have hmc : m = cap := by simpa using hmm
    have key : ∀ i, i < len → ∃ q : (Int × Int), W.cell? (x.add (i * 2)) = some (.int .i64 q.1) ∧ W.cell? (x.add (i * 2 + 1)) = some (.int .i64 q.2) := by
      intro i hil
      obtain ⟨cs', hc, ht⟩ := hi i (by omega)
      rw [hC] at hc
      obtain ⟨_, hcl, hat⟩ := World.cells?_some hc
      match cs', hcl with
      | [c0, c1], _ =>
        obtain ⟨xs, n', _, _, _, hlen, hg⟩ := DataW.trod_struct Try.underlying90 ht
        have g0 := hg 0 _ rfl
        have g1 := hg 1 _ rfl
        simp [Value.cells, cellsI] at g0 g1 hlen
        obtain ⟨q0, rfl, i0⟩ := int_of g0 ⟨_, List.getElem?_eq_getElem (by omega)⟩
        obtain ⟨q1, rfl, i1⟩ := int_of g1 ⟨_, List.getElem?_eq_getElem (by omega)⟩
        have a0 := hat 0 (by omega); have a1 := hat 1 (by omega)
        rw [add_add] at a0 a1
        exact ⟨⟨q0, q1⟩, a0, a1⟩
    have key2 : ∃ q : Nat → (Int × Int), ∀ i, i < len → W.cell? (x.add (i * 2)) = some (.int .i64 (q i).1) ∧ W.cell? (x.add (i * 2 + 1)) = some (.int .i64 (q i).2) := by
      refine ⟨fun i => if h : i < len then Classical.choose (key i h) else ⟨0, 0⟩, fun i h => ?_⟩
      simp only [dif_pos h]
      exact Classical.choose_spec (key i h)
    obtain ⟨q, hq⟩ := key2
    have hlen : ((List.range len).map q).length = len := by simp
    refine ⟨some x, cap, (List.range len).map q, by rw [hlen], ?_, by rw [hlen]; unfold maxLen at hm; omega⟩
    by_cases h0 : len = 0
    · exact .inl (by rw [h0]; rfl)
    · obtain ⟨b, o, spot⟩ := x
      have hc := (hq 0 (by omega)).1
      have hspot : spot = none := by simpa [Addr.add] using World.cell?_spot hc
      subst hspot
      rw [addr_add] at hc
      refine .inr ⟨b, o, rfl, cell_lt hc, fun j hj => ?_⟩
      rw [hlen] at hj
      have := hq j hj
      rw [addr_add, addr_add] at this
      simpa [Nat.add_assoc] using this
theorem lawBridgesA (l : List Br) (a : Option Addr) (cap : Nat) (P : List (Int × Int)) (a2 : Option Addr) (cap2 : Nat) (w : World) (hp : BrAt w a l) (hl : l.length ≤ 9223372036854775807) (hq : LdAt w a2 P) (hl2 : P.length ≤ 9223372036854775807) :
    Calls Try.prog 12 #[.slice a l.length cap, .slice a2 P.length cap2] w fun e w' => e = .returned (.bool true) ∧ Below w.heap.size w w' := by
  cases ht : tooB l P
  · have hh : ¬ (20 < l.length ∧ l.length ≤ 300) ∧ l.length ≤ 305 ∧ P.length ≤ 305 := by
      unfold tooB at ht; simp at ht; omega
    obtain ⟨h1, h4, h3⟩ := hh
    by_cases hb : 300 < l.length
    · exact bridges_B2 0 0 8 l P a a2 cap cap2 w hl hl2 (by omega) h3 h4 hp hq (by decide) rfl
        (Lib.hid fun n n2 a a2 cap cap2 u e1 e2 _ _ => by subst e1; subst e2; exact bload_big l P a a2 cap cap2 u hl (by omega))
        (Lib.hid fun u _ _ => rbload_big l P a a2 cap cap2 u hl (by omega))
    · have h20 : l.length ≤ 20 := by omega
      by_cases he : P.length = l.length
      · by_cases hE : brE l P l.length = 0
        · exact bridges_D _ _ 0 l P a a2 cap cap2 w hl hl2 (by omega) h3 h4 hp hq rfl he hE ⟨rfl, rfl⟩
            (Lib.hid fun n n2 a a2 cap cap2 u e1 e2 p q => by
              subst e1; subst e2
              have := bload_any l P a a2 cap cap2 u _ _ 0 h20 he p q hE rfl rfl
              simp only [if_pos rfl] at this
              rw [he]; exact this)
            (Lib.hid fun u p q => by
              have := rbload_any l P a a2 cap cap2 u _ _ 0 h20 he p q hE rfl rfl
              simp only [if_pos rfl] at this
              rw [he]; exact this)
        · have h2 : brE l P l.length = 2 := by
            rcases brE_two l P l.length with h | h
            · exact absurd h hE
            · exact h
          exact bridges_B1 0 0 2 l P a a2 cap cap2 w hl hl2 (by omega) h3 h4 hp hq (by decide) rfl
            (Lib.hid fun n n2 a a2 cap cap2 u e1 e2 p q => by
              subst e1; subst e2
              have := bload_any l P a a2 cap cap2 u 0 0 2 h20 he p q h2 (by simp) (by simp)
              rw [he]; exact this)
            (Lib.hid fun u p q => by
              have := rbload_any l P a a2 cap cap2 u 0 0 2 h20 he p q h2 (by simp) (by simp)
              rw [he]; exact this)
      · exact bridges_B1 0 0 10 l P a a2 cap cap2 w hl hl2 (by omega) h3 h4 hp hq (by decide) rfl
          (Lib.hid fun n n2 a a2 cap cap2 u e1 e2 _ _ => by subst e1; subst e2; exact bload_shape l P a a2 cap cap2 u hl2 (by omega) (by omega))
          (Lib.hid fun u _ _ => rbload_shape l P a a2 cap cap2 u hl2 (by omega) (by omega))
  · exact bridges_A l P a a2 cap cap2 w hl hl2 ht
end Go.Proofs.Ytnfpmaenikhoaaa
