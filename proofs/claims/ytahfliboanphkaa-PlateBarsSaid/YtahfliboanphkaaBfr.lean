/-
  base.Fracs, of equal fractions.
-/
import Derived.Test.YtahfliboanphkaaRdi
import Derived.Laws.StructEq
import Derived.StillTailTactics
import Derived.Deep.DeepCutAuto
import Derived.Deep.DrawnRows
namespace Go.Proofs.Ytahfliboanphkaa
open Go.RowKit
attribute [local go_sem ↓] Go.wp_at_zero Go.wp_at_succ
theorem eqFrc (a0 a1 b0 b1 : Int) (w : World) :
    (Op.equalIn 10000 63 (.agg #[.int .i64 a0, .int .i64 a1]) (.agg #[.int .i64 b0, .int .i64 b1])).run Try.prog w = .ok (a0 == b0 && a1 == b1) w := by
  rw [show (10000 : Nat) = 9999 + 1 from rfl, run_equalIn_struct w 9999 _ _ _ (by kernel_rfl) (by kernel_rfl)]
  simp [Program.fieldsOf, Try.underlying63, Op.eqFields, go_sem]
  by_cases h0 : a0 = b0 <;> by_cases h1 : a1 = b1 <;> simp [h0, h1]
/-- n fractions lie at v -/
def FrAt (w : World) (v : Value) (n : Nat) (N D : Nat → Int) : Prop :=
  ∃ b o c, v = .slice (some ⟨b, o, none⟩) n c ∧ b < w.heap.size ∧ ∀ j, j < n → w.cell? ⟨b, o + j * 2, none⟩ = some (.int .i64 (N j)) ∧ w.cell? ⟨b, o + j * 2 + 1, none⟩ = some (.int .i64 (D j))
theorem FrAt.keep {w w' : World} {v : Value} {n : Nat} {N D : Nat → Int} (h : FrAt w v n N D) (hb : Below w.heap.size w w') : FrAt w' v n N D := by
  obtain ⟨b, o, c, e, h1, h2⟩ := h
  refine ⟨b, o, c, e, Nat.lt_of_lt_of_le h1 hb.size, fun j hj => ?_⟩
  rw [(bcell hb).1 b _ h1, (bcell hb).1 b _ h1]; exact h2 j hj
theorem frAt_own {w : World} {base n : Nat} {v : Value} {N D : Nat → Int} (hn : 0 < n) (h : w.ownsRow base 63 2 v n (brl N D n n)) : FrAt w v n N D := by
  rcases h.2 with ⟨h0, h1⟩ | ⟨g, cap', cur, h0, h1, h2, h3⟩
  · omega
  · subst h0
    refine ⟨g, 0, cap', rfl, (Array.getElem?_eq_some_iff.1 h2).1, fun j hj => ?_⟩
    have c0 := h.cells rfl (j * 2) _ (brl_get N D n n (j * 2) (by omega))
    have c1 := h.cells rfl (j * 2 + 1) _ (brl_get N D n n (j * 2 + 1) (by omega))
    rw [addr_add] at c0 c1
    rw [show brv N D n (j * 2) = .int .i64 (N j) by unfold brv; rw [if_pos (by omega), if_pos (by omega), show j * 2 / 2 = j by omega]] at c0
    rw [show brv N D n (j * 2 + 1) = .int .i64 (D j) by unfold brv; rw [if_pos (by omega), if_neg (by omega), show (j * 2 + 1) / 2 = j by omega]] at c1
    exact ⟨c0, c1⟩
def FsRel (n : Nat) (w : World) (v : Value) (wr : World) : Prop := ∃ k : Nat, k ≤ n ∧ v = .int .i64 (k : Int) ∧ Drew w wr
set_option maxRecDepth 100000 in
set_option maxHeartbeats 3200000 in
theorem fracs_any (n : Nat) (N D N' D' : Nat → Int) (x y : Value) (w : World) (hn : n ≤ 400) (hN : ∀ j, j < n → N j = N' j ∧ D j = D' j) (hp : FrAt w x n N D) (hq : FrAt w y n N' D') :
    Calls Try.prog 30 #[x, y] w fun e w' => e = .returned (.bool true) ∧ Below w.heap.size w w' := by
  obtain ⟨b, o, c, rfl, hbl, hc⟩ := hp
  obtain ⟨b', o', c', rfl, hbl', hc'⟩ := hq
  have HC := Lib.hid (fun j (hj : j < n) => And.intro (hc j hj) (by have h := hc' j hj; rw [← (hN j hj).1, ← (hN j hj).2] at h; exact h))
  clear hc hc' hN
  go_enter Try.func30, Try.ntmps30
  go_wp2_with fail
  go_loopw [5] (FsRel n w) (fun i _ => n - (intOf i).toNat)
  case atStart => exact ⟨0, by omega, rfl, Drew.refl w⟩
  case round =>
    obtain ⟨k, hk, rfl, hd⟩ := hrel
    have hB := hd.below w.heap.size
    by_cases hkl : k < n
    · obtain ⟨⟨c0, c1⟩, d0, d1⟩ := HC.out k hkl
      rw [← (bcell hB).1 b _ hbl] at c0 c1
      rw [← (bcell hB).1 b' _ hbl'] at d0 d1
      generalize N k = p at *
      generalize D k = q at *
      have EQ := fun v => eqFrc p q p q v
      simp only [beq_self_eq_true, Bool.and_self] at EQ
      have i0 : (0 : Int) ≤ (k : Int) := by omega
      have i1 : (k : Int) < (n : Int) := by omega
      go_wp2_with fail
      go_quiet (fail)
      go_wp2_with fail
      go_roundw
      case rel => exact ⟨k + 1, by omega, by simp, hd.more _⟩
      case measure => simp [intOf]; omega
    · obtain rfl : k = n := by omega
      go_wp2_with fail
      go_ret
      exact ⟨rfl, hB⟩
end Go.Proofs.Ytahfliboanphkaa
