/-
  Copies of forces, owned; two forces compared.
-/
import Derived.Test.YtahfliboanphkaaFcl
import Derived.Test.YtahfliboanphkaaAeq
namespace Go.Proofs.Ytahfliboanphkaa
open Go.RowKit
theorem ownsRow_empty (w : World) (base : Nat) (T : TypeId) {z : Nat} (hb : base ≤ w.heap.size) : (w.alloc (.cells #[] T)).ownsRow base T z (.slice (some ⟨w.heap.size, 0, none⟩) 0 0) 0 [] :=
  World.ownsRow_made w #[] 0 hb (by unfold maxLen; omega) (by simp)
theorem owns_base {w : World} {b b' : Nat} {e : TypeId} {z : Nat} {v : Value} {n : Nat} {xs : List Value} (h : w.ownsRow b e z v n xs) (hb : b' ≤ b) : w.ownsRow b' e z v n xs := by
  refine ⟨h.1, ?_⟩
  rcases h.2 with h | ⟨g, cap, cur, h1, h2, h3⟩
  · exact .inl h
  · exact .inr ⟨g, cap, cur, h1, Nat.le_trans hb h2, h3⟩
theorem owns_keep {w w' : World} {b : Nat} {e : TypeId} {z : Nat} {v : Value} {n : Nat} {xs : List Value} (h : w.ownsRow b e z v n xs) (hw : Below w.heap.size w w') : w'.ownsRow b e z v n xs := by
  refine ⟨h.1, ?_⟩
  rcases h.2 with h | ⟨g, cap, cur, h1, h2, h3, h4⟩
  · exact .inl h
  · exact .inr ⟨g, cap, cur, h1, h2, (hw.block g (Array.getElem?_eq_some_iff.1 h3).1).trans h3, h4⟩
theorem owns_form {w : World} {b : Nat} {e : TypeId} {z : Nat} {v : Value} {n : Nat} {xs : List Value} (h : w.ownsRow b e z v n xs) : ∃ a cap, v = .slice a n cap := by
  rcases h.2 with ⟨rfl, rfl⟩ | ⟨g, cap, cur, rfl, _⟩
  · exact ⟨_, _, rfl⟩
  · exact ⟨_, _, rfl⟩
theorem plAt_own {w : World} {b cap : Nat} {a : Option Addr} {l : List Pf} (h : w.ownsRow b 27 6 (.slice a l.length cap) l.length (plc l)) : PlAt w a l := by
  rcases h.2 with ⟨h0, h1⟩ | ⟨g, cap', cur, h0, h1, h2, h3⟩
  · exact .inl (List.length_eq_zero_iff.1 h1)
  · cases h0
    exact plAt_row h (Array.getElem?_eq_some_iff.1 h2).1
set_option maxRecDepth 100000 in
set_option maxHeartbeats 1600000 in
theorem copied_own (l : List Pf) (a : Option Addr) (cap : Nat) (w : World) (hl : l.length ≤ 400) (hp : PlAt w a l) :
    Calls Try.prog 11 #[.slice a l.length cap] w fun e w' => (∃ v : Value, e = .returned v ∧ w'.ownsRow w.heap.size 27 6 v l.length (plc l)) ∧ Below w.heap.size w w' := by
  obtain ⟨i0, hi0, hz0, hz1, hz2⟩ := info_parts infoP
  by_cases hl0 : l = []
  · subst hl0
    have hsrc : ∀ u : World, Src Try.prog i0.size 22 (.slice a 0 cap) 0 [] u := fun u => by
      cases a with
      | none => exact Src.ofNil u Try.underlying22 cap
      | some x => exact Src.ofSlice u Try.underlying22 x 0 cap [] (by simp) (by simp) (by simp)
    have AP : ∀ (u : World) (ty : TypeId) (B : Nat), (Builtin.append_ #[22, 22] ty #[.slice (some ⟨B, 0, none⟩) 0 0, .slice a 0 cap]).run Try.prog u = .ok (.slice (some ⟨B, 0, none⟩) 0 0) u := fun u ty B =>
      run_append_nothing u 22 22 ty 27 i0 Try.underlying22 hi0 (some ⟨B, 0, none⟩) 0 0 (by omega) _ (hsrc u)
    go_enter Try.func11, Try.ntmps11
    go_wp2_with (at_builtin; refine wpList_nothing rfl _ _ _ _ rfl _ _ rfl rfl (AP _ _ _) ?_)
    go_ret
    exact ⟨⟨_, rfl, ownsRow_empty _ _ _ (Nat.le_refl _)⟩, by (repeat' (first | (with_reducible exact Below.refl _ _) | (with_reducible assumption) | (with_reducible refine Below.drew ?_) | (with_reducible refine below_drewN ?_ _) | (with_reducible refine Below.setCell ?_ ?_ _) | (with_reducible refine Below.alloc ?_ ?_ _) | go_size | omega))⟩
  · have hsome : ∃ b o, a = some ⟨b, o, none⟩ ∧ b < w.heap.size ∧ ∀ j (h : j < l.length), w.cell? ⟨b, o + j * 6, none⟩ = some (.int .i64 (l[j]).x) ∧ w.cell? ⟨b, o + j * 6 + 1, none⟩ = some (.int .i64 (l[j]).y) ∧ w.cell? ⟨b, o + j * 6 + 2, none⟩ = some (.int .i64 (l[j]).z) ∧ w.cell? ⟨b, o + j * 6 + 3, none⟩ = some (.int .i64 (l[j]).p) ∧ w.cell? ⟨b, o + j * 6 + 4, none⟩ = some (.int .i64 (l[j]).q) ∧ w.cell? ⟨b, o + j * 6 + 5, none⟩ = some (.int .i64 (l[j]).r) := by
      rcases hp with h | h
      · exact absurd h hl0
      · exact h
    obtain ⟨b, o, rfl, hb, hc⟩ := hsome
    have hn : 0 < l.length := List.length_pos_iff.2 hl0
    have c1 : ∀ j u, (plc l)[j]? = some u → (w.alloc (.cells #[] 27)).cell? ((⟨b, o, none⟩ : Addr).add j) = some u := fun j u hu => by
      have h := plc_cells hc j u hu
      rw [addr_add] at h ⊢
      exact (World.cell?_alloc_past _ _ _ hb).trans h
    have HC := Lib.hid c1
    clear hc hp hl0 c1
    go_enter Try.func11, Try.ntmps11
    go_wp2_with (at_builtin; refine wpList_append_grows _ rfl _ _ 22 rfl 27 i0 _ 6 48 Try.underlying22 hi0 hz0 hz1 hz2 rfl (by omega) (some ⟨w.heap.size, 0, none⟩) 0 0 [] rfl (by intro e; cases e) rfl (by intro _ _ j u hu; simp at hu) ⟨b, o, none⟩ l.length cap (plc l) rfl (plc_len l) HC.out (plc_one l) (by omega) (by unfold maxLen; omega) (by omega) ?_; intro v' w' hown hgrow)
    obtain ⟨g, c', rfl, hg0, hg1⟩ := hown.form (by omega)
    have B1 : Below w.heap.size w w' := Below.grown (by (repeat' (first | (with_reducible exact Below.refl _ _) | (with_reducible assumption) | (with_reducible refine Below.drew ?_) | (with_reducible refine below_drewN ?_ _) | (with_reducible refine Below.setCell ?_ ?_ _) | (with_reducible refine Below.alloc ?_ ?_ _) | go_size | omega))) hgrow (by simp) (fun k e => by cases e)
    go_wp2_with fail
    go_ret
    exact ⟨⟨_, rfl, owns_base (by simpa using hown) (by simp)⟩, B1⟩
theorem eqArrD (d : Nat) (a0 a1 a2 b0 b1 b2 : Int) (w : World) :
    (Op.equalIn (d + 1 + 1) 23 (.agg #[.int .i64 a0, .int .i64 a1, .int .i64 a2]) (.agg #[.int .i64 b0, .int .i64 b1, .int .i64 b2])).run Try.prog w = .ok (a0 == b0 && (a1 == b1 && a2 == b2)) w := by
  have hi : ∃ i, Try.prog.info? 3 = some i := by
    cases h : Try.prog.info? 3 with
    | none => exact absurd h (by decide +kernel)
    | some i => exact ⟨i, rfl⟩
  obtain ⟨i, hi⟩ := hi
  have hc : Try.prog.cellsOf 3 = 1 := by kernel_rfl
  rw [run_equalIn_array w (d + 1) _ _ Try.underlying23 hi, hc, show List.range 3 = [0, 1, 2] from rfl]
  simp [Op.eqItems, go_sem]
  by_cases h0 : a0 = b0 <;> by_cases h1 : a1 = b1 <;> by_cases h2 : a2 = b2 <;> simp [h0, h1, h2]
theorem eqPul (a0 a1 a2 a3 a4 a5 b0 b1 b2 b3 b4 b5 : Int) (w : World) :
    (Op.equalIn 10000 27 (.agg #[.int .i64 a0, .int .i64 a1, .int .i64 a2, .int .i64 a3, .int .i64 a4, .int .i64 a5]) (.agg #[.int .i64 b0, .int .i64 b1, .int .i64 b2, .int .i64 b3, .int .i64 b4, .int .i64 b5])).run Try.prog w = .ok ((a0 == b0 && (a1 == b1 && a2 == b2)) && (a3 == b3 && (a4 == b4 && a5 == b5))) w := by
  have hA : Try.prog.cellsOf 23 = 3 := by kernel_rfl
  rw [show (10000 : Nat) = 9999 + 1 from rfl, run_equalIn_struct w 9999 _ _ _ (by kernel_rfl) (by kernel_rfl)]
  have e1 := eqArrD 9997 a0 a1 a2 b0 b1 b2 w
  have e2 := eqArrD 9997 a3 a4 a5 b3 b4 b5 w
  simp only [show (9997 : Nat) + 1 + 1 = 9999 from rfl] at e1 e2
  generalize (a0 == b0 && (a1 == b1 && a2 == b2)) = x at *
  generalize (a3 == b3 && (a4 == b4 && a5 == b5)) = y at *
  simp [Program.fieldsOf, Try.underlying27, Op.eqFields, go_sem, e1, e2]
  cases x <;> cases y <;> simp [e2]
end Go.Proofs.Ytahfliboanphkaa
