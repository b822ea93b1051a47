/-
  Whole numbers, copied and opened.
-/
import Derived.Test.YtahfliboanphkaaGld
import Derived.Test.YtahfliboanphkaaBrs
namespace Go.Proofs.Ytahfliboanphkaa
open Go.ChangeShapes Go.WideShapes Go.ChangeAt Go.RowKit Go.Joins Go.Deep
attribute [local go_sem ↓] Go.wp_at_zero Go.wp_at_succ
theorem own_cap {w : World} {base size n : Nat} {e : TypeId} {v : Value} {xs : List Value} (h : w.ownsRow base e size v n xs) : ∀ a k c, v = .slice a k c → n ≤ c := by
  intro a k c hv
  rcases h.2 with ⟨h0, h1⟩ | ⟨g, cap', cur, h0, h1, h2, h3, -⟩
  · omega
  · rw [h0] at hv; cases hv; exact h3
set_option maxRecDepth 100000 in
set_option maxHeartbeats 1600000 in
theorem copyInts2_any (l : List Int) (a : Option Addr) (cap : Nat) (w : World) (hl : l.length ≤ 400) (hp : InAt w a l) :
    Calls Try.prog 25 #[.slice a l.length cap] w fun e w' => (∃ a' cap', e = .returned (.slice a' l.length cap') ∧ InAt w' a' l ∧ l.length ≤ cap') ∧ Below w.heap.size w w' := by
  obtain ⟨i0, hi0, hz0, hz1, hz2⟩ := info_parts infoI
  by_cases hl0 : l = []
  · subst hl0
    have hsrc : ∀ u : World, Src Try.prog i0.size 47 (.slice a 0 cap) 0 [] u := fun u => by
      cases a with
      | none => exact Src.ofNil u Try.underlying47 cap
      | some x => exact Src.ofSlice u Try.underlying47 x 0 cap [] (by simp) (by simp) (by simp)
    have AP : ∀ (u : World) (ty : TypeId) (B : Nat), (Builtin.append_ #[47, 47] ty #[.slice (some ⟨B, 0, none⟩) 0 0, .slice a 0 cap]).run Try.prog u = .ok (.slice (some ⟨B, 0, none⟩) 0 0) u := fun u ty B =>
      run_append_nothing u 47 47 ty 3 i0 Try.underlying47 hi0 (some ⟨B, 0, none⟩) 0 0 (by omega) _ (hsrc u)
    go_enter Try.func25, Try.ntmps25
    go_wp2_with (at_builtin; refine wpList_nothing rfl _ _ _ _ rfl _ _ rfl rfl (AP _ _ _) ?_)
    go_ret
    exact ⟨⟨_, _, rfl, .inl rfl, by simp⟩, by (repeat' (first | (with_reducible exact Below.refl _ _) | (with_reducible assumption) | (with_reducible refine Below.drew ?_) | (with_reducible refine below_drewN ?_ _) | (with_reducible refine Below.setCell ?_ ?_ _) | (with_reducible refine Below.alloc ?_ ?_ _) | go_size | omega))⟩
  · obtain ⟨b, o, rfl, hb, hc⟩ : ∃ b o, a = some ⟨b, o, none⟩ ∧ b < w.heap.size ∧ ∀ j (h : j < l.length), w.cell? ⟨b, o + j, none⟩ = some (.int .i64 l[j]) := by
      rcases hp with h | h
      · exact absurd h hl0
      · exact h
    have hn : 0 < l.length := List.length_pos_iff.2 hl0
    have c1 : ∀ j u, (inc l)[j]? = some u → (w.alloc (.cells #[] 3)).cell? ((⟨b, o, none⟩ : Addr).add j) = some u := fun j u hu => by
      unfold inc at hu
      rw [List.getElem?_map] at hu
      by_cases hj : j < l.length
      · rw [List.getElem?_eq_getElem hj] at hu
        simp at hu
        rw [addr_add, ← hu]
        exact (World.cell?_alloc_past _ _ _ hb).trans (hc j hj)
      · rw [List.getElem?_eq_none (by omega)] at hu; simp at hu
    have hlen : (inc l).length = l.length * 1 := by unfold inc; simp
    have hone : ∀ u ∈ inc l, u.oneCell' = true := by
      intro u hu
      unfold inc at hu
      obtain ⟨x, -, rfl⟩ := List.mem_map.1 hu
      rfl
    have HC := Lib.hid (And.intro c1 (And.intro hlen hone))
    clear hc hp hl0 c1 hlen hone
    go_enter Try.func25, Try.ntmps25
    go_wp2_with (at_builtin; refine wpList_append_grows _ rfl _ _ 47 rfl 3 i0 _ 1 8 Try.underlying47 hi0 hz0 hz1 hz2 rfl (by omega) (some ⟨w.heap.size, 0, none⟩) 0 0 [] rfl (by intro e; cases e) rfl (by intro _ _ j u hu; simp at hu) ⟨b, o, none⟩ l.length cap (inc l) rfl HC.out.2.1 HC.out.1 HC.out.2.2 (by omega) (by unfold maxLen; omega) (by omega) ?_; intro v' w' hown hgrow)
    have hcap0 := own_cap hown
    obtain ⟨g, c', rfl, hg0, hg1⟩ := hown.form (by omega)
    have hcap := hcap0 _ _ _ rfl
    have B1 : Below w.heap.size w w' := Below.grown (by (repeat' (first | (with_reducible exact Below.refl _ _) | (with_reducible assumption) | (with_reducible refine Below.drew ?_) | (with_reducible refine below_drewN ?_ _) | (with_reducible refine Below.setCell ?_ ?_ _) | (with_reducible refine Below.alloc ?_ ?_ _) | go_size | omega))) hgrow (by simp) (fun k e => by cases e)
    have hpl : InAt w' (some ⟨g, 0, none⟩) l := inAt_own (b := (w.alloc (.cells #[] 3)).heap.size) (cap := c') (by simpa using hown)
    go_wp2_with fail
    go_ret
    exact ⟨⟨_, c', by simp, hpl, by simpa using hcap⟩, B1⟩

set_option maxRecDepth 100000 in
theorem ints_open {H : Type} {enc : TypeId × Value → H} {W : World} {base : Nat} {v : Value} {d : DataW H} {p : List MemPlace} (hv : Value.okWide Try.prog W .any base 47 v)
    (h0 : DataW.Trod enc Try.prog W 0 (fun _ => true) true 47 v d p) :
    ∃ (a : Option Addr) (cap : Nat) (l : List Int), v = .slice a l.length cap ∧ InAt W a l ∧ l.length ≤ 9223372036854775807 := by
  have hC : Try.prog.cellsOf 3 = 1 := by kernel_rfl
  obtain ⟨a0, len, cap, rfl⟩ := okWide_slice Try.underlying47 hv
  obtain ⟨fuel, hf⟩ := h0
  rcases open_slice Try.underlying47 hf with ⟨hcs, _⟩ | ⟨x, l, c, m, n, D, Pl, hcs, _, hl, hm, hmm, _, hi⟩
  · simp [Value.cells] at hcs
    obtain ⟨rfl, rfl, rfl⟩ := hcs
    exact ⟨none, 0, [], rfl, .inl rfl, by simp⟩
  · simp [Value.cells] at hcs
    obtain ⟨rfl, rfl, rfl⟩ := hcs
    have hmc : m = cap := by simpa using hmm
    have key : ∀ i, i < len → ∃ q : Int, W.cell? (x.add i) = some (.int .i64 q) := by
      intro i hil
      obtain ⟨cs', hc, ht⟩ := hi i (by omega)
      rw [hC] at hc
      obtain ⟨_, hcl, hat⟩ := World.cells?_some hc
      match cs', hcl with
      | [c0], _ =>
        obtain ⟨q, rfl, -⟩ := int_of ht ⟨_, rfl⟩
        have a0 := hat 0 (by omega)
        rw [add_add] at a0
        exact ⟨q, by simpa using a0⟩
    have key2 : ∃ q : Nat → Int, ∀ i, i < len → W.cell? (x.add i) = some (.int .i64 (q i)) := by
      refine ⟨fun i => if h : i < len then Classical.choose (key i h) else 0, fun i h => ?_⟩
      simp only [dif_pos h]
      exact Classical.choose_spec (key i h)
    obtain ⟨q, hq⟩ := key2
    have hlen : ((List.range len).map q).length = len := by simp
    refine ⟨some x, cap, (List.range len).map q, by rw [hlen], ?_, by rw [hlen]; unfold maxLen at hm; omega⟩
    by_cases h0 : len = 0
    · exact .inl (by rw [h0]; rfl)
    · obtain ⟨b, o, spot⟩ := x
      have hc := hq 0 (by omega)
      have hspot : spot = none := by simpa [Addr.add] using World.cell?_spot hc
      subst hspot
      rw [addr_add] at hc
      refine .inr ⟨b, o, rfl, cell_lt hc, fun j hj => ?_⟩
      rw [hlen] at hj
      have := hq j hj
      rw [addr_add] at this
      simpa using this
end Go.Proofs.Ytahfliboanphkaa
