/-
  Lists of loads: where they lie, their copies, and how they are opened.
-/
import Derived.Test.YtahfliboanphkaaOp3
import Derived.Test.YtahfliboanphkaaDi2
import Derived.Test.YtahfliboanphkaaOpl
import Derived.Deep.AppendLies
import Derived.Deep.LoopGhost
import Derived.Deep.Upon
import Derived.OwnWalk
import Derived.Deep.Slices
namespace Go.Proofs.Ytahfliboanphkaa
open Go.ChangeShapes Go.WideShapes Go.ChangeAt Go.RowKit Go.Joins Go.Deep
def LdAt (w : World) (a : Option Addr) (L : List (Int × Int)) : Prop :=
  L = [] ∨ ∃ b o, a = some ⟨b, o, none⟩ ∧ b < w.heap.size ∧ LoadsAt w b o L
theorem LdAt.keep {w w' : World} {a : Option Addr} {L : List (Int × Int)} (h : LdAt w a L) (hb : Below w.heap.size w w') : LdAt w' a L := by
  rcases h with h | ⟨b, o, rfl, h1, h2⟩
  · exact .inl h
  · exact .inr ⟨b, o, rfl, Nat.lt_of_lt_of_le h1 hb.size, h2.below hb h1⟩
def smL (L : List (Int × Int)) : Bool := decide (L.length ≤ 12) || (decide (100 < L.length) && decide (L.length ≤ 105))
set_option maxHeartbeats 800000 in
theorem some_any (L : List (Int × Int)) (a : Option Addr) (cap : Nat) (w : World) (hl : L.length ≤ 9223372036854775807) :
    Calls Try.prog 23 #[.slice a L.length cap] w fun e w' => e = .returned (.bool (smL L)) ∧ Below w.heap.size w w' := by
  by_cases h1 : (L.length : Int) ≤ 12 <;> by_cases h2 : (100 : Int) < L.length <;> by_cases h3 : (L.length : Int) ≤ 105
  all_goals
    go_enter Try.func23, Try.ntmps23
    go_wp2_with fail
    go_ret
    exact ⟨ret_bool (by unfold smL; rw [Bool.eq_iff_iff]; simp; omega), by (repeat' (first | (with_reducible exact Below.refl _ _) | (with_reducible assumption) | (with_reducible refine Below.drew ?_) | (with_reducible refine below_drewN ?_ _) | (with_reducible refine Below.setCell ?_ ?_ _) | (with_reducible refine Below.alloc ?_ ?_ _) | go_size | omega))⟩
def ldc (L : List (Int × Int)) : List Value := L.flatMap fun y => [.int .i64 y.1, .int .i64 y.2]
theorem ldc_len (L : List (Int × Int)) : (ldc L).length = L.length * 2 := by
  induction L with
  | nil => rfl
  | cons y t ih => unfold ldc at *; rw [List.flatMap_cons, List.length_append, ih]; simp; omega
theorem ldc_get (L : List (Int × Int)) : ∀ (j : Nat) (hj : j < L.length), (ldc L)[j * 2]? = some (.int .i64 (L[j]).1) ∧ (ldc L)[j * 2 + 1]? = some (.int .i64 (L[j]).2) := by
  induction L with
  | nil => intro j hj; simp at hj
  | cons y t ih =>
    intro j hj
    cases j with
    | zero => simp [ldc]
    | succ j =>
      have := ih j (by simpa using hj)
      unfold ldc at *
      rw [List.flatMap_cons]
      rw [show (j + 1) * 2 = j * 2 + 1 + 1 by omega]
      simpa using this
theorem ldc_one (L : List (Int × Int)) : ∀ u ∈ ldc L, u.oneCell' = true := by
  intro u hu
  unfold ldc at hu
  rw [List.mem_flatMap] at hu
  obtain ⟨p, _, hu⟩ := hu
  simp at hu
  rcases hu with rfl | rfl <;> rfl
theorem ldc_cells {w : World} {b o : Nat} {L : List (Int × Int)} (h : LoadsAt w b o L) : ∀ j u, (ldc L)[j]? = some u → w.cell? ((⟨b, o, none⟩ : Addr).add j) = some u := by
  intro j u hu
  have hj : j < (ldc L).length := (List.getElem?_eq_some_iff.1 hu).1
  rw [ldc_len] at hj
  obtain ⟨h0, h1⟩ := h (j / 2) (by omega)
  obtain ⟨g0, g1⟩ := ldc_get L (j / 2) (by omega)
  rw [addr_add]
  rcases (show j % 2 = 0 ∨ j % 2 = 1 by omega) with e | e
  · rw [show j = j / 2 * 2 by omega] at hu ⊢; rw [← hu, g0]; exact h0
  · rw [show j = j / 2 * 2 + 1 by omega] at hu ⊢; rw [← hu, g1, ← Nat.add_assoc]; exact h1
theorem ldAt_row {w : World} {base g cap : Nat} {L : List (Int × Int)} (h : w.ownsRow base 64 2 (.slice (some ⟨g, 0, none⟩) L.length cap) L.length (ldc L)) (hg : g < w.heap.size) : LoadsAt w g 0 L := by
  intro j hj
  obtain ⟨g0, g1⟩ := ldc_get L j hj
  have c0 := h.cells rfl _ _ g0; have c1 := h.cells rfl _ _ g1
  rw [addr_add] at c0 c1
  simp at c0 c1
  simpa using ⟨c0, c1⟩
set_option maxRecDepth 100000 in
set_option maxHeartbeats 1600000 in
theorem loads_any (L : List (Int × Int)) (a : Option Addr) (cap : Nat) (w : World) (hl : L.length ≤ 400) (hp : LdAt w a L) :
    Calls Try.prog 26 #[.slice a L.length cap] w fun e w' => (∃ b' cap', e = .returned (.slice (some ⟨b', 0, none⟩) L.length cap') ∧ LoadsIn w'.heap.size w' (.slice (some ⟨b', 0, none⟩) L.length cap') L) ∧ Below w.heap.size w w' := by
  obtain ⟨i0, hi0, hz0, hz1, hz2⟩ := info_parts info82
  by_cases hl0 : L = []
  · subst hl0
    have hsrc : ∀ u : World, Src Try.prog i0.size 48 (.slice a 0 cap) 0 [] u := fun u => by
      cases a with
      | none => exact Src.ofNil u Try.underlying48 cap
      | some x => exact Src.ofSlice u Try.underlying48 x 0 cap [] (by simp) (by simp) (by simp)
    have AP : ∀ (u : World) (ty : TypeId) (B : Nat), (Builtin.append_ #[48, 48] ty #[.slice (some ⟨B, 0, none⟩) 0 0, .slice a 0 cap]).run Try.prog u = .ok (.slice (some ⟨B, 0, none⟩) 0 0) u := fun u ty B =>
      run_append_nothing u 48 48 ty 64 i0 Try.underlying48 hi0 (some ⟨B, 0, none⟩) 0 0 (by omega) _ (hsrc u)
    go_enter Try.func26, Try.ntmps26
    go_wp2_with (at_builtin; refine wpList_nothing rfl _ _ _ _ rfl _ _ rfl rfl (AP _ _ _) ?_)
    go_ret
    exact ⟨⟨_, _, rfl, .inr ⟨_, _, _, rfl, by simp, fun j hj => by simp at hj⟩⟩, by (repeat' (first | (with_reducible exact Below.refl _ _) | (with_reducible assumption) | (with_reducible refine Below.drew ?_) | (with_reducible refine below_drewN ?_ _) | (with_reducible refine Below.setCell ?_ ?_ _) | (with_reducible refine Below.alloc ?_ ?_ _) | go_size | omega))⟩
  · have hsome : ∃ b o, a = some ⟨b, o, none⟩ ∧ b < w.heap.size ∧ LoadsAt w b o L := by
      rcases hp with h | h
      · exact absurd h hl0
      · exact h
    obtain ⟨b, o, rfl, hb, hc⟩ := hsome
    have hn : 0 < L.length := List.length_pos_iff.2 hl0
    have c1 : ∀ j u, (ldc L)[j]? = some u → (w.alloc (.cells #[] 64)).cell? ((⟨b, o, none⟩ : Addr).add j) = some u := fun j u hu => by
      have h := ldc_cells hc j u hu
      rw [addr_add] at h ⊢
      exact (World.cell?_alloc_past _ _ _ hb).trans h
    have HC := Lib.hid c1
    clear hc hp hl0 c1
    go_enter Try.func26, Try.ntmps26
    go_wp2_with (at_builtin; refine wpList_append_grows _ rfl _ _ 48 rfl 64 i0 _ 2 16 Try.underlying48 hi0 hz0 hz1 hz2 rfl (by omega) (some ⟨w.heap.size, 0, none⟩) 0 0 [] rfl (by intro e; cases e) rfl (by intro _ _ j u hu; simp at hu) ⟨b, o, none⟩ L.length cap (ldc L) rfl (ldc_len L) HC.out (ldc_one L) (by omega) (by unfold maxLen; omega) (by omega) ?_; intro v' w' hown hgrow)
    obtain ⟨g, c', rfl, hg0, hg1⟩ := hown.form (by omega)
    have B1 : Below w.heap.size w w' := Below.grown (by (repeat' (first | (with_reducible exact Below.refl _ _) | (with_reducible assumption) | (with_reducible refine Below.drew ?_) | (with_reducible refine below_drewN ?_ _) | (with_reducible refine Below.setCell ?_ ?_ _) | (with_reducible refine Below.alloc ?_ ?_ _) | go_size | omega))) hgrow (by simp) (fun k e => by cases e)
    have hpl : LoadsAt w' g 0 L := ldAt_row (by simpa using hown) hg1
    go_wp2_with fail
    go_ret
    exact ⟨⟨g, c', by simp, .inr ⟨g, 0, c', rfl, hg1, hpl⟩⟩, B1⟩
theorem trod_two {H : Type} {enc : TypeId × Value → H} {P : Program} {w : World} {base : Nat} {spare : Nat → Bool} {held : Bool} {t e : TypeId} {fuel : Nat} {c0 c1 : Value} {x : DataW H × List MemPlace} (ht : P.underlying t = some (.array 2 e)) (hce : P.cellsOf e = 1)
    (h : DataW.trod enc P w base spare held fuel t [c0, c1] = some x) :
    ∃ y0 y1 n, DataW.trod enc P w base spare held n e [c0] = some y0 ∧ DataW.trod enc P w base spare held n e [c1] = some y1 := by
  match fuel, h with
  | 0, h => simp [DataW.trod] at h
  | n + 1, h =>
    unfold DataW.trod at h
    rw [ht] at h
    simp [show List.range 2 = [0, 1] from rfl, hce] at h
    rcases h0 : DataW.trod enc P w base spare held n e [c0] with _ | y0
    · simp [h0] at h
    · rcases h1 : DataW.trod enc P w base spare held n e [c1] with _ | y1
      · simp [h0, h1] at h
      · exact ⟨y0, y1, n, h0, h1⟩
theorem arr2_of {H : Type} {enc : TypeId × Value → H} {W : World} {m : Nat} {c0 c1 : Value} {y : Option (DataW H × List MemPlace)} (h : DataW.trod enc Try.prog W 0 (fun _ => true) true m 64 [c0, c1] = y) (hy : ∃ z, y = some z) : ∃ a b : Int, c0 = .int .i64 a ∧ c1 = .int .i64 b ∧ I64 a ∧ I64 b := by
  obtain ⟨z, rfl⟩ := hy
  obtain ⟨y0, y1, n, h0, h1⟩ := trod_two Try.underlying64 cellsI h
  obtain ⟨a, rfl, ha⟩ := int_of h0 ⟨_, rfl⟩
  obtain ⟨b, rfl, hb⟩ := int_of h1 ⟨_, rfl⟩
  exact ⟨a, b, rfl, rfl, ha, hb⟩
set_option maxRecDepth 100000 in
theorem loads_open {H : Type} {enc : TypeId × Value → H} {W : World} {base : Nat} {v : Value} {d : DataW H} {p : List MemPlace} (hv : Value.okWide Try.prog W .any base 48 v)
    (h0 : DataW.Trod enc Try.prog W 0 (fun _ => true) true 48 v d p) :
    ∃ (a : Option Addr) (cap : Nat) (L : List (Int × Int)), v = .slice a L.length cap ∧ LdAt W a L ∧ L.length ≤ 9223372036854775807 ∧ ∀ y ∈ L, I64 y.1 ∧ I64 y.2 := by
  have hC : Try.prog.cellsOf 64 = 2 := by kernel_rfl
  obtain ⟨a0, len, cap, rfl⟩ := okWide_slice Try.underlying48 hv
  obtain ⟨fuel, hf⟩ := h0
  rcases open_slice Try.underlying48 hf with ⟨hcs, _⟩ | ⟨x, l, c, m, n, D, Pl, hcs, _, hl, hm, hmm, _, hi⟩
  · simp [Value.cells] at hcs
    obtain ⟨rfl, rfl, rfl⟩ := hcs
    exact ⟨none, 0, [], rfl, .inl rfl, by simp, by simp⟩
  · simp [Value.cells] at hcs
    obtain ⟨rfl, rfl, rfl⟩ := hcs
    have hmc : m = cap := by simpa using hmm
    have key : ∀ i, i < len → ∃ q : Int × Int, W.cell? (x.add (i * 2)) = some (.int .i64 q.1) ∧ W.cell? (x.add (i * 2 + 1)) = some (.int .i64 q.2) ∧ I64 q.1 ∧ I64 q.2 := by
      intro i hil
      obtain ⟨cs', hc, ht⟩ := hi i (by omega)
      rw [hC] at hc
      obtain ⟨_, hcl, hat⟩ := World.cells?_some hc
      match cs', hcl with
      | [c0, c1], _ =>
        obtain ⟨q0, q1, rfl, rfl, i0, i1⟩ := arr2_of ht ⟨_, rfl⟩
        have a0 := hat 0 (by omega); have a1 := hat 1 (by omega)
        rw [add_add] at a0 a1
        exact ⟨⟨q0, q1⟩, a0, a1, i0, i1⟩
    have key2 : ∃ q : Nat → Int × Int, ∀ i, i < len → W.cell? (x.add (i * 2)) = some (.int .i64 (q i).1) ∧ W.cell? (x.add (i * 2 + 1)) = some (.int .i64 (q i).2) ∧ I64 (q i).1 ∧ I64 (q i).2 := by
      refine ⟨fun i => if h : i < len then Classical.choose (key i h) else ⟨0, 0⟩, fun i h => ?_⟩
      simp only [dif_pos h]
      exact Classical.choose_spec (key i h)
    obtain ⟨q, hq⟩ := key2
    have hlen : ((List.range len).map q).length = len := by simp
    refine ⟨some x, cap, (List.range len).map q, by rw [hlen], ?_, by rw [hlen]; unfold maxLen at hm; omega, ?_⟩
    · by_cases h0 : len = 0
      · exact .inl (by rw [h0]; rfl)
      · obtain ⟨b, o, spot⟩ := x
        have hc := (hq 0 (by omega)).1
        have hspot : spot = none := by simpa [Addr.add] using World.cell?_spot hc
        subst hspot
        rw [addr_add] at hc
        refine .inr ⟨b, o, rfl, cell_lt hc, fun j hj => ?_⟩
        rw [hlen] at hj
        have := hq j hj
        rw [addr_add, addr_add] at this
        simpa [Nat.add_assoc] using ⟨this.1, this.2.1⟩
    · intro y hy
      obtain ⟨i, hi, rfl⟩ := List.mem_map.1 hy
      exact (hq i (by simpa using hi)).2.2
end Go.Proofs.Ytahfliboanphkaa
