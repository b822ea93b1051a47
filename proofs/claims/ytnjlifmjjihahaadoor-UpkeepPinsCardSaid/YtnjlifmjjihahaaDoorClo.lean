/-
  Copies of numbers: slices.Clone and CopyInts, whatever they are. No condition but the length.
-/
import Derived.Test.YtnjlifmjjihahaaDoorExe
import Derived.Test.YtnjlifmjjihahaaDoorOwn
import Derived.Deep.AppendLies
import Derived.Deep.LoopGhost
import Derived.Deep.Upon
import Derived.OwnWalk
namespace Go.Proofs.YtnjlifmjjihahaaDoor
open Go.RowKit
theorem addr_add (b o j : Nat) : ((⟨b, o, none⟩ : Addr).add j) = ⟨b, o + j, none⟩ := by unfold Addr.add; split <;> simp_all
theorem wpList_nothing {P : Program} {w : World} {ops : Array Oper} {rest : List Oper} {o : Oper} {a : Act} {Q : Exit → Act → World → Prop} (hgd : o.guard = none) (s x : Operand) (t tx : TypeId)
    (ho : o.op = .call { callee := .builtin .append, args := #[s, x], argTypes := #[t, tx] }) (v xv : Value) (hs : a.eval s = v) (hx : a.eval x = xv)
    (hr : (Builtin.append_ #[t, tx] o.type #[v, xv]).run P w = .ok v w) (hK : wpList P ops Q rest (a.put o.dst v) w) : wpList P ops Q (o :: rest) a w := by
  refine wpList_plain hgd fun K hK' => ?_
  unfold Oper.wp execOp
  simp only [ho, resolve, invoke, builtin, Sem.run_bind, Sem.run_pure, Result.andThen_ok, List.map_toArray, List.map_cons, List.map_nil, hs, hx, hr]
  exact hK' _ _ hK
/-- a copy of the call's own -/
def CpR (l : List Int) (w : World) (e : Ending) (w' : World) : Prop := (∃ v : Value, e = .returned v ∧ OwnI w' w.heap.size v l) ∧ Below w.heap.size w w'
set_option maxRecDepth 100000 in
set_option maxHeartbeats 1600000 in
theorem cloneI_any (l : List Int) (a : Option Addr) (cap : Nat) (w : World) (hl : l.length ≤ 400) (hp : SetAt w a l) :
    Calls Tryd.prog 121 #[.slice a l.length cap] w (CpR l w) := by
  by_cases hnil : a = none
  · subst hnil
    have hl0 : l = [] := by
      rcases hp with h | ⟨b, o, h, _⟩
      · exact h
      · cases h
    subst hl0
    have EN := fun u : World => Lib.run_eql_slice_nil (P := Tryd.prog) u 42 3 none 0 cap 0 0 Tryd.underlying42
    simp only [Option.isNone_none] at EN
    go_enter Tryd.func121, Tryd.ntmps121
    go_wp2_with fail
    go_ret
    exact ⟨⟨_, rfl, World.ownsRow_nil _ _ _ _⟩, by (repeat' (first | (with_reducible exact Below.refl _ _) | (with_reducible assumption) | (with_reducible refine Below.drew ?_) | (with_reducible refine below_drewN ?_ _) | (with_reducible refine Below.setCell ?_ ?_ _) | (with_reducible refine Below.alloc ?_ ?_ _) | go_size | omega))⟩
  obtain ⟨x0, rfl⟩ : ∃ x, a = some x := by
    cases a with
    | none => exact absurd rfl hnil
    | some x => exact ⟨x, rfl⟩
  have EN := fun u : World => Lib.run_eql_slice_nil (P := Tryd.prog) u 42 3 (some x0) l.length cap 0 0 Tryd.underlying42
  simp only [Option.isNone_some] at EN
  clear hnil
  obtain ⟨i0, hi0, hz0, hz1, hz2⟩ := info_parts infoInt
  by_cases hl0 : l = []
  · subst hl0
    simp only [List.length_nil] at EN
    have hsrc : ∀ u : World, Src Tryd.prog i0.size 42 (.slice (some x0) 0 cap) 0 [] u := fun u => Src.ofSlice u Tryd.underlying42 x0 0 cap [] (by simp) (by simp) (by simp)
    have AP : ∀ (u : World) (ty : TypeId) (B : Nat), (Builtin.append_ #[42, 42] ty #[.slice (some ⟨B, 0, none⟩) 0 0, .slice (some x0) 0 cap]).run Tryd.prog u = .ok (.slice (some ⟨B, 0, none⟩) 0 0) u := fun u ty B =>
      run_append_nothing u 42 42 ty 3 i0 Tryd.underlying42 hi0 (some ⟨B, 0, none⟩) 0 0 (by omega) _ (hsrc u)
    go_enter Tryd.func121, Tryd.ntmps121
    go_wp2_with (at_builtin; refine wpList_nothing rfl _ _ _ _ rfl _ _ rfl rfl (AP _ _ _) ?_)
    go_ret
    exact ⟨⟨_, rfl, ownsRow_empty _ _ _ (Nat.le_refl _)⟩, by (repeat' (first | (with_reducible exact Below.refl _ _) | (with_reducible assumption) | (with_reducible refine Below.drew ?_) | (with_reducible refine below_drewN ?_ _) | (with_reducible refine Below.setCell ?_ ?_ _) | (with_reducible refine Below.alloc ?_ ?_ _) | go_size | omega))⟩
  · obtain ⟨b, o, hx0, hb, hc⟩ : ∃ b o, some x0 = some (⟨b, o, none⟩ : Addr) ∧ b < w.heap.size ∧ ∀ j (h : j < l.length), w.cell? ⟨b, o + j, none⟩ = some (.int .i64 l[j]) := by
      rcases hp with h | h
      · exact absurd h hl0
      · exact h
    cases hx0
    clear hp
    have hn : 0 < l.length := List.length_pos_iff.2 hl0
    have c1 : ∀ j u, (l.map (Value.int .i64))[j]? = some u → (w.alloc (.cells #[] 3)).cell? ((⟨b, o, none⟩ : Addr).add j) = some u := fun j u hu => by
      rw [List.getElem?_map] at hu
      by_cases hj : j < l.length
      · rw [List.getElem?_eq_getElem hj] at hu
        simp at hu
        rw [addr_add, ← hu]
        exact (World.cell?_alloc_past _ _ _ hb).trans (hc j hj)
      · rw [List.getElem?_eq_none (by omega)] at hu; simp at hu
    have hlen : (l.map (Value.int .i64)).length = l.length * 1 := by simp
    have hone : ∀ u ∈ l.map (Value.int .i64), u.oneCell' = true := by
      intro u hu
      obtain ⟨x, -, rfl⟩ := List.mem_map.1 hu
      rfl
    have HC := Lib.hid (And.intro c1 (And.intro hlen hone))
    clear hc hl0 c1 hlen hone
    go_enter Tryd.func121, Tryd.ntmps121
    go_wp2_with (at_builtin; refine wpList_append_grows _ rfl _ _ 42 rfl 3 i0 _ 1 8 Tryd.underlying42 hi0 hz0 hz1 hz2 rfl (by omega) (some ⟨w.heap.size, 0, none⟩) 0 0 [] rfl (by intro e; cases e) rfl (by intro _ _ j u hu; simp at hu) ⟨b, o, none⟩ l.length cap (l.map (Value.int .i64)) rfl HC.out.2.1 HC.out.1 HC.out.2.2 (by omega) (by unfold maxLen; omega) (by omega) ?_; intro v' w' hown hgrow)
    obtain ⟨g, c', rfl, hg0, hg1⟩ := hown.form (by omega)
    have B1 : Below w.heap.size w w' := Below.grown (by (repeat' (first | (with_reducible exact Below.refl _ _) | (with_reducible assumption) | (with_reducible refine Below.drew ?_) | (with_reducible refine below_drewN ?_ _) | (with_reducible refine Below.setCell ?_ ?_ _) | (with_reducible refine Below.alloc ?_ ?_ _) | go_size | omega))) hgrow (by simp) (fun k e => by cases e)
    go_wp2_with fail
    go_ret
    exact ⟨⟨_, rfl, owns_base (by simpa using hown) (by simp)⟩, B1⟩
set_option maxRecDepth 100000 in
set_option maxHeartbeats 1600000 in
theorem copyI_any (l : List Int) (a : Option Addr) (cap : Nat) (w : World) (hl : l.length ≤ 400) (hp : SetAt w a l) :
    Calls Tryd.prog 28 #[.slice a l.length cap] w (CpR l w) := by
  obtain ⟨i0, hi0, hz0, hz1, hz2⟩ := info_parts infoInt
  by_cases hl0 : l = []
  · subst hl0
    have hsrc : ∀ u : World, Src Tryd.prog i0.size 42 (.slice a 0 cap) 0 [] u := fun u => by
      cases a with
      | none => exact Src.ofNil u Tryd.underlying42 cap
      | some x => exact Src.ofSlice u Tryd.underlying42 x 0 cap [] (by simp) (by simp) (by simp)
    have AP : ∀ (u : World) (ty : TypeId) (B : Nat), (Builtin.append_ #[42, 42] ty #[.slice (some ⟨B, 0, none⟩) 0 0, .slice a 0 cap]).run Tryd.prog u = .ok (.slice (some ⟨B, 0, none⟩) 0 0) u := fun u ty B =>
      run_append_nothing u 42 42 ty 3 i0 Tryd.underlying42 hi0 (some ⟨B, 0, none⟩) 0 0 (by omega) _ (hsrc u)
    go_enter Tryd.func28, Tryd.ntmps28
    go_wp2_with (at_builtin; refine wpList_nothing rfl _ _ _ _ rfl _ _ rfl rfl (AP _ _ _) ?_)
    go_ret
    exact ⟨⟨_, rfl, ownsRow_empty _ _ _ (Nat.le_refl _)⟩, by (repeat' (first | (with_reducible exact Below.refl _ _) | (with_reducible assumption) | (with_reducible refine Below.drew ?_) | (with_reducible refine below_drewN ?_ _) | (with_reducible refine Below.setCell ?_ ?_ _) | (with_reducible refine Below.alloc ?_ ?_ _) | go_size | omega))⟩
  · obtain ⟨b, o, rfl, hb, hc⟩ : ∃ b o, a = some ⟨b, o, none⟩ ∧ b < w.heap.size ∧ ∀ j (h : j < l.length), w.cell? ⟨b, o + j, none⟩ = some (.int .i64 l[j]) := by
      rcases hp with h | h
      · exact absurd h hl0
      · exact h
    clear hp
    have hn : 0 < l.length := List.length_pos_iff.2 hl0
    have c1 : ∀ j u, (l.map (Value.int .i64))[j]? = some u → (w.alloc (.cells #[] 3)).cell? ((⟨b, o, none⟩ : Addr).add j) = some u := fun j u hu => by
      rw [List.getElem?_map] at hu
      by_cases hj : j < l.length
      · rw [List.getElem?_eq_getElem hj] at hu
        simp at hu
        rw [addr_add, ← hu]
        exact (World.cell?_alloc_past _ _ _ hb).trans (hc j hj)
      · rw [List.getElem?_eq_none (by omega)] at hu; simp at hu
    have hlen : (l.map (Value.int .i64)).length = l.length * 1 := by simp
    have hone : ∀ u ∈ l.map (Value.int .i64), u.oneCell' = true := by
      intro u hu
      obtain ⟨x, -, rfl⟩ := List.mem_map.1 hu
      rfl
    have HC := Lib.hid (And.intro c1 (And.intro hlen hone))
    clear hc hl0 c1 hlen hone
    go_enter Tryd.func28, Tryd.ntmps28
    go_wp2_with (at_builtin; refine wpList_append_grows _ rfl _ _ 42 rfl 3 i0 _ 1 8 Tryd.underlying42 hi0 hz0 hz1 hz2 rfl (by omega) (some ⟨w.heap.size, 0, none⟩) 0 0 [] rfl (by intro e; cases e) rfl (by intro _ _ j u hu; simp at hu) ⟨b, o, none⟩ l.length cap (l.map (Value.int .i64)) rfl HC.out.2.1 HC.out.1 HC.out.2.2 (by omega) (by unfold maxLen; omega) (by omega) ?_; intro v' w' hown hgrow)
    obtain ⟨g, c', rfl, hg0, hg1⟩ := hown.form (by omega)
    have B1 : Below w.heap.size w w' := Below.grown (by (repeat' (first | (with_reducible exact Below.refl _ _) | (with_reducible assumption) | (with_reducible refine Below.drew ?_) | (with_reducible refine below_drewN ?_ _) | (with_reducible refine Below.setCell ?_ ?_ _) | (with_reducible refine Below.alloc ?_ ?_ _) | go_size | omega))) hgrow (by simp) (fun k e => by cases e)
    go_wp2_with fail
    go_ret
    exact ⟨⟨_, rfl, owns_base (by simpa using hown) (by simp)⟩, B1⟩
end Go.Proofs.YtnjlifmjjihahaaDoor
