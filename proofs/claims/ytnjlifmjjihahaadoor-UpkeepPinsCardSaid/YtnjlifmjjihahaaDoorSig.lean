/-
  Signatures: bits of tests; upkeep.single, (signatures).has, (signatures).notes. No condition but the ranges of the arguments.
-/
import Derived.Test.YtnjlifmjjihahaaDoorCor
import Derived.Laws.Rows
import Derived.Deep.MidRow
import Derived.Deep.DrawnRows
import Derived.Shelf.Small.Wraps
namespace Go.Proofs.YtnjlifmjjihahaaDoor
open Go.RowKit
attribute [local go_sem ↓] Go.wp_at_zero Go.wp_at_succ
set_option maxHeartbeats 400000 in
theorem single_any (n : Nat) (w : World) (hn : n < 64) :
    Calls Tryd.prog 113 #[.int .i64 n] w fun e w' => e = .returned (.int .u64 ((2 ^ n : Nat) : Int)) ∧ w' = w := by
  go_enter Tryd.func113, Tryd.ntmps113
  go_wp2
  go_ret
  refine ⟨ret_int ?_, rfl⟩
  have h : (2 : Nat) ^ n < 2 ^ 64 := Nat.pow_lt_pow_right (by omega) hn
  rw [IntKind.wrap_u64]
  have h2 : (2 : Int) ^ n = ((2 ^ n : Nat) : Int) := by simp
  rw [h2]
  refine Int.emod_eq_of_lt (Int.natCast_nonneg _) ?_
  generalize (2 : Nat) ^ n = m at *
  have e64 : (2 : Nat) ^ 64 = 18446744073709551616 := rfl
  omega
/-- the 88 cells of signatures -/
def sgc (s : Nat → Nat) : Array Value := ((List.range 88).map fun j => Value.int .u64 (s j : Int)).toArray
set_option maxRecDepth 100000 in
set_option maxHeartbeats 800000 in
theorem has_any (s : Nat → Nat) (n : Int) (w : World) :
    Calls Tryd.prog 93 #[.agg (sgc s), .int .i64 n] w fun e w' => e = .returned (.bool (decide (0 ≤ n ∧ n ≤ 87 ∧ s n.toNat ≠ 0))) ∧ Below w.heap.size w w' := by
  by_cases hr : 0 ≤ n ∧ n ≤ 87
  · obtain ⟨n, rfl⟩ := Int.eq_ofNat_of_zero_le hr.1
    have hn : n < 88 := by omega
    have hz : rgE (n : Int) 0 87 = 0 := by unfold rgE inR; rw [decide_eq_true hr]; rfl
    have HZ := Lib.hid hz
    clear hz hr
    have hx : (sgc s)[n]? = some (.int .u64 (s n : Int)) := by simp [sgc, hn]
    have hc : (w.alloc (.cells (sgc s) 127)).cell? ⟨w.heap.size, n, none⟩ = some (.int .u64 (s n : Int)) := by
      rw [(Box.new w (sgc s) 127 (n := w.heap.size) rfl).cell n]; exact hx
    have HS := Lib.hid (show ∃ x, s n = x from ⟨_, rfl⟩)
    obtain ⟨x, hs⟩ := HS.out
    rw [hs] at hc
    have HX := Lib.hid hs; clear hs hx HS
    by_cases hz : x = 0
    · subst hz
      go_enter Tryd.func93, Tryd.ntmps93
      go_wp2_with (go_at_call 75; refine (noteErr_any _ _).mono ?_; rw [HZ.out]; rintro e w' ⟨rfl, rfl⟩)
      go_ret
      exact ⟨ret_bool (by rw [eq_comm]; exact decide_eq_false (fun h => h.2.2 (by simpa using HX.out))), by (repeat' (first | (with_reducible exact Below.refl _ _) | (with_reducible assumption) | (with_reducible refine Below.drew ?_) | (with_reducible refine below_drewN ?_ _) | (with_reducible refine Below.setCell ?_ ?_ _) | (with_reducible refine Below.alloc ?_ ?_ _) | go_size | omega))⟩
    · have hz' : ((x : Int) != 0) = true := by simpa using hz
      have HZ2 := Lib.hid hz; clear hz
      go_enter Tryd.func93, Tryd.ntmps93
      go_wp2_with (go_at_call 75; refine (noteErr_any _ _).mono ?_; rw [HZ.out]; rintro e w' ⟨rfl, rfl⟩)
      go_ret
      exact ⟨ret_bool (by rw [eq_comm]; exact decide_eq_true ⟨by omega, by omega, by simp [HX.out, HZ2.out]⟩), by (repeat' (first | (with_reducible exact Below.refl _ _) | (with_reducible assumption) | (with_reducible refine Below.drew ?_) | (with_reducible refine below_drewN ?_ _) | (with_reducible refine Below.setCell ?_ ?_ _) | (with_reducible refine Below.alloc ?_ ?_ _) | go_size | omega))⟩
  · have hz : rgE n 0 87 = 2 := by unfold rgE inR; rw [decide_eq_false hr]; rfl
    have HZ := Lib.hid hz
    have HR := Lib.hid hr
    clear hz hr
    go_enter Tryd.func93, Tryd.ntmps93
    go_wp2_with (go_at_call 75; refine (noteErr_any _ _).mono ?_; rw [HZ.out]; rintro e w' ⟨rfl, rfl⟩)
    go_ret
    exact ⟨ret_bool (by symm; exact decide_eq_false (fun h => HR.out ⟨h.1, h.2.1⟩)), by (repeat' (first | (with_reducible exact Below.refl _ _) | (with_reducible assumption) | (with_reducible refine Below.drew ?_) | (with_reducible refine below_drewN ?_ _) | (with_reducible refine Below.setCell ?_ ?_ _) | (with_reducible refine Below.alloc ?_ ?_ _) | go_size | omega))⟩
end Go.Proofs.YtnjlifmjjihahaaDoor
