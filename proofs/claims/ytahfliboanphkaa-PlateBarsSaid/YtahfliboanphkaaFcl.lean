/-
  Lists of forces: where they lie, and their copies.
-/
import Derived.Test.YtahfliboanphkaaFcs
import Derived.Deep.AppendLies
import Derived.Deep.LoopGhost
import Derived.Deep.Upon
import Derived.OwnWalk
namespace Go.Proofs.Ytahfliboanphkaa
open Go.RowKit
structure Pf where
  (x y z p q r : Int)
def PlAt (w : World) (a : Option Addr) (l : List Pf) : Prop :=
  l = [] ∨ ∃ b o, a = some ⟨b, o, none⟩ ∧ b < w.heap.size ∧ ∀ j (h : j < l.length), w.cell? ⟨b, o + j * 6, none⟩ = some (.int .i64 (l[j]).x) ∧ w.cell? ⟨b, o + j * 6 + 1, none⟩ = some (.int .i64 (l[j]).y) ∧ w.cell? ⟨b, o + j * 6 + 2, none⟩ = some (.int .i64 (l[j]).z) ∧ w.cell? ⟨b, o + j * 6 + 3, none⟩ = some (.int .i64 (l[j]).p) ∧ w.cell? ⟨b, o + j * 6 + 4, none⟩ = some (.int .i64 (l[j]).q) ∧ w.cell? ⟨b, o + j * 6 + 5, none⟩ = some (.int .i64 (l[j]).r)
theorem PlAt.keep {w w' : World} {a : Option Addr} {l : List Pf} (h : PlAt w a l) (hb : Below w.heap.size w w') : PlAt w' a l := by
  rcases h with h | ⟨b, o, rfl, h1, h2⟩
  · exact .inl h
  · refine .inr ⟨b, o, rfl, Nat.lt_of_lt_of_le h1 hb.size, fun j hj => ?_⟩
    rw [(bcell hb).1 b _ h1, (bcell hb).1 b _ h1, (bcell hb).1 b _ h1, (bcell hb).1 b _ h1, (bcell hb).1 b _ h1, (bcell hb).1 b _ h1]; exact h2 j hj
theorem few_any (l : List Pf) (a : Option Addr) (cap : Nat) (w : World) (hl : l.length ≤ 9223372036854775807) :
    Calls Try.prog 9 #[.slice a l.length cap] w fun e w' => e = .returned (.bool (decide (l.length ≤ 20) || (decide (300 < l.length) && decide (l.length ≤ 305)))) ∧ Below w.heap.size w w' := by
  by_cases h1 : (l.length : Int) ≤ 20 <;> by_cases h2 : (300 : Int) < l.length <;> by_cases h3 : (l.length : Int) ≤ 305
  all_goals
    go_enter Try.func9, Try.ntmps9
    go_wp2_with fail
    go_ret
    exact ⟨ret_bool (by rw [Bool.eq_iff_iff]; simp; omega), by (repeat' (first | (with_reducible exact Below.refl _ _) | (with_reducible assumption) | (with_reducible refine Below.drew ?_) | (with_reducible refine below_drewN ?_ _) | (with_reducible refine Below.setCell ?_ ?_ _) | (with_reducible refine Below.alloc ?_ ?_ _) | go_size | omega))⟩
def plc (l : List Pf) : List Value := l.flatMap fun p => [.int .i64 p.x, .int .i64 p.y, .int .i64 p.z, .int .i64 p.p, .int .i64 p.q, .int .i64 p.r]
theorem plc_len (l : List Pf) : (plc l).length = l.length * 6 := by
  induction l with
  | nil => rfl
  | cons y t ih => unfold plc at *; rw [List.flatMap_cons, List.length_append, ih]; simp; omega
theorem plc_get (l : List Pf) : ∀ (j : Nat) (hj : j < l.length), (plc l)[j * 6]? = some (.int .i64 (l[j]).x) ∧ (plc l)[j * 6 + 1]? = some (.int .i64 (l[j]).y) ∧ (plc l)[j * 6 + 2]? = some (.int .i64 (l[j]).z) ∧ (plc l)[j * 6 + 3]? = some (.int .i64 (l[j]).p) ∧ (plc l)[j * 6 + 4]? = some (.int .i64 (l[j]).q) ∧ (plc l)[j * 6 + 5]? = some (.int .i64 (l[j]).r) := by
  induction l with
  | nil => intro j hj; simp at hj
  | cons y t ih =>
    intro j hj
    cases j with
    | zero => simp [plc]
    | succ j =>
      have := ih j (by simpa using hj)
      unfold plc at *
      rw [List.flatMap_cons]
      rw [show (j + 1) * 6 = j * 6 + 1 + 1 + 1 + 1 + 1 + 1 by omega]
      simpa using this
theorem plc_one (l : List Pf) : ∀ u ∈ plc l, u.oneCell' = true := by
  intro u hu
  unfold plc at hu
  rw [List.mem_flatMap] at hu
  obtain ⟨p, _, hu⟩ := hu
  simp at hu
  rcases hu with rfl | rfl | rfl | rfl | rfl | rfl <;> rfl
theorem addr_add (b o i : Nat) : (⟨b, o, none⟩ : Addr).add i = ⟨b, o + i, none⟩ := by
  unfold Addr.add; by_cases h : i = 0 <;> simp [h]
theorem plc_cells {w : World} {b o : Nat} {l : List Pf} (h : ∀ j (h : j < l.length), w.cell? ⟨b, o + j * 6, none⟩ = some (.int .i64 (l[j]).x) ∧ w.cell? ⟨b, o + j * 6 + 1, none⟩ = some (.int .i64 (l[j]).y) ∧ w.cell? ⟨b, o + j * 6 + 2, none⟩ = some (.int .i64 (l[j]).z) ∧ w.cell? ⟨b, o + j * 6 + 3, none⟩ = some (.int .i64 (l[j]).p) ∧ w.cell? ⟨b, o + j * 6 + 4, none⟩ = some (.int .i64 (l[j]).q) ∧ w.cell? ⟨b, o + j * 6 + 5, none⟩ = some (.int .i64 (l[j]).r)) :
    ∀ j u, (plc l)[j]? = some u → w.cell? ((⟨b, o, none⟩ : Addr).add j) = some u := by
  intro j u hu
  have hj : j < (plc l).length := (List.getElem?_eq_some_iff.1 hu).1
  rw [plc_len] at hj
  obtain ⟨h0, h1, h2, h3, h4, h5⟩ := h (j / 6) (by omega)
  obtain ⟨g0, g1, g2, g3, g4, g5⟩ := plc_get l (j / 6) (by omega)
  rw [addr_add]
  rcases (show j % 6 = 0 ∨ j % 6 = 1 ∨ j % 6 = 2 ∨ j % 6 = 3 ∨ j % 6 = 4 ∨ j % 6 = 5 by omega) with e | e | e | e | e | e
  · rw [show j = j / 6 * 6 by omega] at hu ⊢; rw [← hu, g0]; exact h0
  · rw [show j = j / 6 * 6 + 1 by omega] at hu ⊢; rw [← hu, g1, ← Nat.add_assoc]; exact h1
  · rw [show j = j / 6 * 6 + 2 by omega] at hu ⊢; rw [← hu, g2, ← Nat.add_assoc]; exact h2
  · rw [show j = j / 6 * 6 + 3 by omega] at hu ⊢; rw [← hu, g3, ← Nat.add_assoc]; exact h3
  · rw [show j = j / 6 * 6 + 4 by omega] at hu ⊢; rw [← hu, g4, ← Nat.add_assoc]; exact h4
  · rw [show j = j / 6 * 6 + 5 by omega] at hu ⊢; rw [← hu, g5, ← Nat.add_assoc]; exact h5
theorem plAt_row {w : World} {base g cap : Nat} {l : List Pf} (h : w.ownsRow base 27 6 (.slice (some ⟨g, 0, none⟩) l.length cap) l.length (plc l)) (hg : g < w.heap.size) : PlAt w (some ⟨g, 0, none⟩) l := by
  refine .inr ⟨g, 0, rfl, hg, fun j hj => ?_⟩
  obtain ⟨g0, g1, g2, g3, g4, g5⟩ := plc_get l j hj
  have c0 := h.cells rfl _ _ g0; have c1 := h.cells rfl _ _ g1; have c2 := h.cells rfl _ _ g2; have c3 := h.cells rfl _ _ g3; have c4 := h.cells rfl _ _ g4; have c5 := h.cells rfl _ _ g5
  rw [addr_add] at c0 c1 c2 c3 c4 c5
  exact ⟨c0, c1, c2, c3, c4, c5⟩
theorem infoP : (Try.prog.info? 27).map (fun i => (i.zero, i.size, i.bytes)) = some (some (.agg #[.int .i64 0, .int .i64 0, .int .i64 0, .int .i64 0, .int .i64 0, .int .i64 0]), 6, 48) := by kernel_rfl
theorem wpList_nothing {P : Program} {w : World} {ops : Array Oper} {rest : List Oper} {o : Oper} {a : Act} {Q : Exit → Act → World → Prop} (hgd : o.guard = none) (s x : Operand) (t tx : TypeId)
    (ho : o.op = .call { callee := .builtin .append, args := #[s, x], argTypes := #[t, tx] }) (v xv : Value) (hs : a.eval s = v) (hx : a.eval x = xv)
    (hr : (Builtin.append_ #[t, tx] o.type #[v, xv]).run P w = .ok v w) (hK : wpList P ops Q rest (a.put o.dst v) w) : wpList P ops Q (o :: rest) a w := by
  refine wpList_plain hgd fun K hK' => ?_
  unfold Oper.wp execOp
  simp only [ho, resolve, invoke, builtin, Sem.run_bind, Sem.run_pure, Result.andThen_ok, List.map_toArray, List.map_cons, List.map_nil, hs, hx, hr]
  exact hK' _ _ hK
set_option maxRecDepth 100000 in
set_option maxHeartbeats 1600000 in
theorem copied_any (l : List Pf) (a : Option Addr) (cap : Nat) (w : World) (hl : l.length ≤ 400) (hp : PlAt w a l) :
    Calls Try.prog 11 #[.slice a l.length cap] w fun e w' => (∃ a' cap', e = .returned (.slice a' l.length cap') ∧ PlAt w' a' l) ∧ Below w.heap.size w w' := by
  obtain ⟨i0, hi0, hz0, hz1, hz2⟩ := info_parts infoP
  by_cases hl0 : l = []
  · subst hl0
    have hsrc : ∀ u : World, Src Try.prog i0.size 22 (.slice a 0 cap) 0 [] u := fun u => by
      cases a with
      | none => exact Src.ofNil u Try.underlying22 cap
      | some x => exact Src.ofSlice u Try.underlying22 x 0 cap [] (by simp) (by simp) (by simp)
    have AP : ∀ (u : World) (ty : TypeId) (B : Nat), (Builtin.append_ #[22, 22] ty #[.slice (some ⟨B, 0, none⟩) 0 0, .slice a 0 cap]).run Try.prog u = .ok (.slice (some ⟨B, 0, none⟩) 0 0) u := fun u ty B =>
      run_append_nothing u 22 22 ty 27 i0 Try.underlying22 hi0 (some ⟨B, 0, none⟩) 0 0 (by omega) _ (hsrc u)
    go_enter Try.func11, Try.ntmps11
    go_wp2_with (at_builtin; refine wpList_nothing rfl _ _ _ _ rfl _ _ rfl rfl (AP _ _ _) ?_)
    go_ret
    exact ⟨⟨_, _, rfl, .inl rfl⟩, by (repeat' (first | (with_reducible exact Below.refl _ _) | (with_reducible assumption) | (with_reducible refine Below.drew ?_) | (with_reducible refine below_drewN ?_ _) | (with_reducible refine Below.setCell ?_ ?_ _) | (with_reducible refine Below.alloc ?_ ?_ _) | go_size | omega))⟩
  · have hsome : ∃ b o, a = some ⟨b, o, none⟩ ∧ b < w.heap.size ∧ ∀ j (h : j < l.length), w.cell? ⟨b, o + j * 6, none⟩ = some (.int .i64 (l[j]).x) ∧ w.cell? ⟨b, o + j * 6 + 1, none⟩ = some (.int .i64 (l[j]).y) ∧ w.cell? ⟨b, o + j * 6 + 2, none⟩ = some (.int .i64 (l[j]).z) ∧ w.cell? ⟨b, o + j * 6 + 3, none⟩ = some (.int .i64 (l[j]).p) ∧ w.cell? ⟨b, o + j * 6 + 4, none⟩ = some (.int .i64 (l[j]).q) ∧ w.cell? ⟨b, o + j * 6 + 5, none⟩ = some (.int .i64 (l[j]).r) := by
      rcases hp with h | h
      · exact absurd h hl0
      · exact h
    obtain ⟨b, o, rfl, hb, hc⟩ := hsome
    have hn : 0 < l.length := List.length_pos_iff.2 hl0
    have c1 : ∀ j u, (plc l)[j]? = some u → (w.alloc (.cells #[] 27)).cell? ((⟨b, o, none⟩ : Addr).add j) = some u := fun j u hu => by
      have h := plc_cells hc j u hu
      rw [addr_add] at h ⊢
      exact (World.cell?_alloc_past _ _ _ hb).trans h
    have HC := Lib.hid c1
    clear hc hp hl0 c1
    go_enter Try.func11, Try.ntmps11
    go_wp2_with (at_builtin; refine wpList_append_grows _ rfl _ _ 22 rfl 27 i0 _ 6 48 Try.underlying22 hi0 hz0 hz1 hz2 rfl (by omega) (some ⟨w.heap.size, 0, none⟩) 0 0 [] rfl (by intro e; cases e) rfl (by intro _ _ j u hu; simp at hu) ⟨b, o, none⟩ l.length cap (plc l) rfl (plc_len l) HC.out (plc_one l) (by omega) (by unfold maxLen; omega) (by omega) ?_; intro v' w' hown hgrow)
    obtain ⟨g, c', rfl, hg0, hg1⟩ := hown.form (by omega)
    have B1 : Below w.heap.size w w' := Below.grown (by (repeat' (first | (with_reducible exact Below.refl _ _) | (with_reducible assumption) | (with_reducible refine Below.drew ?_) | (with_reducible refine below_drewN ?_ _) | (with_reducible refine Below.setCell ?_ ?_ _) | (with_reducible refine Below.alloc ?_ ?_ _) | go_size | omega))) hgrow (by simp) (fun k e => by cases e)
    have hpl : PlAt w' (some ⟨g, 0, none⟩) l := plAt_row (by simpa using hown) hg1
    go_wp2_with fail
    go_ret
    exact ⟨⟨_, c', by simp, hpl⟩, B1⟩
end Go.Proofs.Ytahfliboanphkaa
