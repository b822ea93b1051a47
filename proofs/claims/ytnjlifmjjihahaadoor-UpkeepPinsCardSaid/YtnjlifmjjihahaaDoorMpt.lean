/-
  Maps with tests as keys: looking one up, and putting a new one in. No condition.
-/
import Derived.Test.YtnjlifmjjihahaaDoorBase
import Derived.MapKept
import Derived.Laws.StructEq
import Derived.Laws.AppendOwn
namespace Go.Proofs.YtnjlifmjjihahaaDoor
open Go.RowKit
/-- a test -/
structure Tt where
  lo : Int
  hi : Int
  p : Int
  q : Int
deriving DecidableEq
def Tt.v (t : Tt) : Value := .agg #[.int .i64 t.lo, .int .i64 t.hi, .int .i64 t.p, .int .i64 t.q]
theorem ttKey (e : Bool) (t : Tt) (w : World) : (Instr.checkKey e 10000 134 t.v).run Tryd.prog w = .ok () w := by kernel_rfl
set_option maxHeartbeats 800000 in
theorem ttEq (s t : Tt) (w : World) : (Op.equal 134 s.v t.v).run Tryd.prog w = .ok (decide (s = t)) w := by
  obtain ⟨a0, a1, a2, a3⟩ := s
  obtain ⟨b0, b1, b2, b3⟩ := t
  unfold Tt.v Op.equal Op.maxDepth
  rw [show (10000 : Nat) = 9999 + 1 from rfl, run_equalIn_struct w 9999 _ _ _ (by kernel_rfl) (by kernel_rfl)]
  simp [Program.fieldsOf, Tryd.underlying134, Op.eqFields, go_sem]
  by_cases h0 : a0 = b0 <;> by_cases h1 : a1 = b1 <;> by_cases h2 : a2 = b2 <;> by_cases h3 : a3 = b3 <;> simp [h0, h1, h2, h3]
/-- the entries hold these tests, each with the value true -/
def Ents (es : List MapEntry) (l : List Tt) : Prop := es.map (fun e => (e.key, e.val)) = l.map fun t => (t.v, Value.bool true)
theorem ask_no {t : Tt} (w : World) : ∀ (es : List MapEntry) (l : List Tt) (i : Nat), Ents es l → t ∉ l → (Instr.findAsking 134 t.v es i).run Tryd.prog w = .ok none w := fun es => by
  induction es with
  | nil => intro l i _ _; simp [Instr.findAsking]
  | cons e es ih =>
    intro l i h ht
    cases l with
    | nil => simp [Ents] at h
    | cons x l =>
      have h' := h
      unfold Ents at h
      simp only [List.map_cons, List.cons.injEq, Prod.mk.injEq] at h
      have hne : t ≠ x := fun e => ht (by simp [e])
      simp [Instr.findAsking, h.1.1, ttEq, hne, Result.andThen]
      exact ih l _ h.2 (fun hm => ht (by simp [hm]))
theorem ask_yes {t : Tt} (w : World) : ∀ (es : List MapEntry) (l : List Tt) (i : Nat), Ents es l → t ∈ l → ∃ j, (Instr.findAsking 134 t.v es i).run Tryd.prog w = .ok (some (j, .bool true)) w := fun es => by
  induction es with
  | nil =>
    intro l i h ht
    cases l with
    | nil => simp at ht
    | cons x l => simp [Ents] at h
  | cons e es ih =>
    intro l i h ht
    cases l with
    | nil => simp [Ents] at h
    | cons x l =>
      unfold Ents at h
      simp only [List.map_cons, List.cons.injEq, Prod.mk.injEq] at h
      by_cases hx : t = x
      · refine ⟨i, ?_⟩
        simp [Instr.findAsking, h.1.1, h.1.2, ttEq, hx, Result.andThen]
      · obtain ⟨j, hj⟩ := ih l (i + 1) h.2 (by simpa [hx] using ht)
        refine ⟨j, ?_⟩
        simp [Instr.findAsking, h.1.1, ttEq, hx, Result.andThen]
        exact hj
theorem find_is (t : Tt) (w : World) (es : List MapEntry) (h : es ≠ []) : (Instr.findKey 134 t.v es).run Tryd.prog w = (Instr.findAsking 134 t.v es 0).run Tryd.prog w := by
  cases es with
  | nil => exact absurd rfl h
  | cons e es =>
    have hn : Instr.findNow (.struct (Tryd.prog.fieldsOf 134)) t.v (e :: es) 0 = none := by simp [Instr.findNow, Instr.sameNow]
    have hu : Tryd.prog.underlying 134 = some (.struct (Tryd.prog.fieldsOf 134)) := by kernel_rfl
    simp [Instr.findKey, run_underlying hu, hn, Result.andThen]
theorem find_nil (t : Tt) (w : World) : (Instr.findKey 134 t.v []).run Tryd.prog w = .ok none w := by
  have hu : Tryd.prog.underlying 134 = some (.struct (Tryd.prog.fieldsOf 134)) := by kernel_rfl
  simp [Instr.findKey, run_underlying hu, Instr.findNow, Result.andThen]
/-- the block is a map of these tests -/
def MapT (w : World) (b : Nat) (l : List Tt) : Prop := ∃ es clock, w.heap[b]? = some (.map es clock) ∧ Ents es.toList l
theorem MapT.lt {w : World} {b : Nat} {l : List Tt} (h : MapT w b l) : b < w.heap.size := by
  obtain ⟨es, c, h, _⟩ := h; exact (Array.getElem?_eq_some_iff.1 h).1
theorem MapT.keep {w w' : World} {b : Nat} {l : List Tt} (h : MapT w b l) (hb : Below w.heap.size w w') : MapT w' b l := by
  have hl := h.lt
  obtain ⟨es, c, h, he⟩ := h
  exact ⟨es, c, (hb.block b hl).trans h, he⟩
theorem MapT.new (w : World) : MapT (w.alloc (.map #[] 0)) w.heap.size [] := ⟨#[], 0, heap_alloc_new w _, rfl⟩
theorem find_no {w : World} {b : Nat} {l : List Tt} {es : Array MapEntry} {t : Tt} (he : Ents es.toList l) (ht : t ∉ l) : (Instr.findKey 134 t.v es.toList).run Tryd.prog w = .ok none w := by
  by_cases h : es.toList = []
  · rw [h]; exact find_nil t w
  · rw [find_is t w _ h]; exact ask_no w _ _ _ he ht
theorem find_yes {w : World} {l : List Tt} {es : Array MapEntry} {t : Tt} (he : Ents es.toList l) (ht : t ∈ l) : ∃ j, (Instr.findKey 134 t.v es.toList).run Tryd.prog w = .ok (some (j, .bool true)) w := by
  by_cases h : es.toList = []
  · rw [h] at he; cases l with
    | nil => simp at ht
    | cons x l => simp [Ents] at he
  · rw [find_is t w _ h]; exact ask_yes w _ _ _ he ht
theorem zeroB (w : World) : (zeroValue 4).run Tryd.prog w = .ok (.bool false) w := by kernel_rfl
theorem look_no {w : World} {b : Nat} {l : List Tt} {t : Tt} (h : MapT w b l) (ht : t ∉ l) : (Instr.lookup 143 (.map (some b)) t.v false).run Tryd.prog w = .ok (.bool false) w := by
  obtain ⟨es, c, hb, he⟩ := h
  simp [Instr.lookup, run_underlying Tryd.underlying143, MapKept.run_getObj_map hb, ttKey, find_no he ht (w := w) (b := b), zeroB, Result.andThen]
theorem look_yes {w : World} {b : Nat} {l : List Tt} {t : Tt} (h : MapT w b l) (ht : t ∈ l) : (Instr.lookup 143 (.map (some b)) t.v false).run Tryd.prog w = .ok (.bool true) w := by
  obtain ⟨es, c, hb, he⟩ := h
  obtain ⟨j, hj⟩ := find_yes he ht (w := w)
  simp [Instr.lookup, run_underlying Tryd.underlying143, MapKept.run_getObj_map hb, ttKey, hj, Result.andThen]
theorem put_new {w : World} {b : Nat} {l : List Tt} {t : Tt} (h : MapT w b l) (ht : t ∉ l) : ∃ w', (Instr.mapUpdate 143 (.map (some b)) t.v (.bool true)).run Tryd.prog w = .ok () w' ∧ MapT w' b (l ++ [t]) ∧ w.grownBy w' (some b) := by
  obtain ⟨es, c, hb, he⟩ := h
  have hl := (Array.getElem?_eq_some_iff.1 hb).1
  refine ⟨{ w with heap := w.heap.setIfInBounds b (.map (es.push { key := t.v, val := .bool true, born := c }) (c + 1)) }, ?_, ⟨_, _, (MapKept.heap_set hb).1, ?_⟩, ⟨rfl, rfl, rfl, by simp, fun k _ hk => (MapKept.heap_set hb).2 k (fun e => hk (by rw [e]))⟩⟩
  · simp [Instr.mapUpdate, run_underlying Tryd.underlying143, MapKept.run_getObj_map hb, ttKey, find_no he ht (w := w) (b := b), MapKept.run_setObj_map _ hb, Result.andThen]
  · unfold Ents at he ⊢
    simp [he]
end Go.Proofs.YtnjlifmjjihahaaDoor
