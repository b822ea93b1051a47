/-
  The notes of signatures, and the error of an explanation: (signatures).notes, (outcome).explanationError. No condition but the ranges of the arguments.
-/
import Derived.Test.YtnjlifmjjihahaaDoorSig
import Derived.Test.YtnjlifmjjihahaaDoorOwn
namespace Go.Proofs.YtnjlifmjjihahaaDoor
open Go.RowKit
attribute [local go_sem ↓] Go.wp_at_zero Go.wp_at_succ
/-- the notes below k whose signature is not empty -/
def ntsTo (s : Nat → Nat) (k : Nat) : List Nat := (List.range k).filter fun j => decide (s j ≠ 0)
theorem ntsTo_yes {s : Nat → Nat} {k : Nat} (h : s k ≠ 0) : ntsTo s (k + 1) = ntsTo s k ++ [k] := by
  unfold ntsTo; rw [List.range_succ, List.filter_append]; simp [h]
theorem ntsTo_no {s : Nat → Nat} {k : Nat} (h : s k = 0) : ntsTo s (k + 1) = ntsTo s k := by
  unfold ntsTo; rw [List.range_succ, List.filter_append]; simp [h]
theorem ntsTo_len (s : Nat → Nat) (k : Nat) : (ntsTo s k).length ≤ k := by
  unfold ntsTo; refine Nat.le_trans (List.length_filter_le _ _) ?_; simp
theorem sgc_size (s : Nat → Nat) : (sgc s).size = 88 := by simp [sgc]
theorem infoSg : (Tryd.prog.info? 127).map (·.size) = some 88 := by kernel_rfl
theorem infoSgs (s : Nat → Nat) : (Tryd.prog.info? 127).map (·.size) = some (sgc s).size := by rw [sgc_size]; exact infoSg
theorem has_yes (s : Nat → Nat) (n : Nat) (w : World) (hn : n < 88) (hs : s n ≠ 0) :
    Calls Tryd.prog 93 #[.agg (sgc s), .int .i64 n] w fun e w' => e = .returned (.bool true) ∧ Below w.heap.size w w' := by
  have h := has_any s n w
  rwa [decide_eq_true ⟨by omega, by omega, by simpa using hs⟩] at h
theorem has_no (s : Nat → Nat) (n : Nat) (w : World) (hs : s n = 0) :
    Calls Tryd.prog 93 #[.agg (sgc s), .int .i64 n] w fun e w' => e = .returned (.bool false) ∧ Below w.heap.size w w' := by
  have h := has_any s n w
  rwa [decide_eq_false (fun h => h.2.2 (by simpa using hs))] at h
def ntsI (s : Nat → Nat) (k : Nat) : List Int := (ntsTo s k).map fun n : Nat => (n : Int)
def NtR (s : Nat → Nat) (w : World) (e : Ending) (w' : World) : Prop := ∃ v, e = .returned v ∧ OwnI w' w.heap.size v (ntsI s 88) ∧ Below w.heap.size w w'
set_option maxRecDepth 100000 in
set_option maxHeartbeats 1600000 in
theorem notes_any (s : Nat → Nat) (w : World) : Calls Tryd.prog 92 #[.agg (sgc s)] w (NtR s w) := by
  obtain ⟨i0, hi, hz0, hz1, hz2⟩ := info_parts infoInt
  go_enter Tryd.func92, Tryd.ntmps92
  go_wp2
  have S0 := Lib.hid (Box.new w (sgc s) 127 (n := w.heap.size) rfl)
  have B0 : Below w.heap.size w (w.alloc (.cells (sgc s) 127)) := by (repeat' (first | (with_reducible exact Below.refl _ _) | (with_reducible assumption) | (with_reducible refine Below.drew ?_) | (with_reducible refine below_drewN ?_ _) | (with_reducible refine Below.setCell ?_ ?_ _) | (with_reducible refine Below.alloc ?_ ?_ _) | go_size | omega))
  generalize (w.alloc (.cells (sgc s) 127)) = u at *
  go_loopw [3, 5] (fun v i wr => ∃ k : Nat, k ≤ 88 ∧ i = .int .i64 k ∧ Box wr w.heap.size (sgc s) 127 ∧ OwnI wr (w.heap.size + 1) v (ntsI s k) ∧ Below w.heap.size w wr) (fun _ i _ => 88 - (intOf i).toNat)
  case atStart => exact ⟨0, by omega, rfl, S0.out, World.ownsRow_nil _ _ _ _, B0⟩
  case round =>
    obtain ⟨k, hk, rfl, R0, RO, RB⟩ := hrel
    have R0 := Lib.hid R0; have RO := Lib.hid RO
    by_cases hlt : k < 88
    · by_cases hs : s k = 0
      · have CH := Lib.hid (fun u => has_no s k u hs)
        have HN := Lib.hid (show ntsI s (k + 1) = ntsI s k by unfold ntsI; rw [ntsTo_no hs])
        clear hs
        go_wp2_with (first
          | (refine wpList_load_row rfl 127 _ rfl w.heap.size rfl _ (sgc s) (0, 0) _ R0.out Tryd.underlying127 rfl (infoSgs s) ?_)
          | (go_at_call 93; refine (CH.out _).mono ?_; rintro e w2 ⟨rfl, h2⟩))
        go_roundw
        case rel => exact ⟨k + 1, by omega, by go_num, R0.out.keep h2, by rw [HN.out]; exact RO.out.keep h2, below_via RB h2⟩
        case measure => simp [intOf]; omega
      · have CH := Lib.hid (fun u => has_yes s k u hlt hs)
        have HN := Lib.hid (show ntsI s (k + 1) = ntsI s k ++ [(k : Int)] by unfold ntsI; rw [ntsTo_yes hs]; simp)
        have HL := Lib.hid (show (ntsI s k).length ≤ k by unfold ntsI; rw [List.length_map]; exact ntsTo_len s k)
        clear hs
        go_wp2_with (first
          | (refine wpList_load_row rfl 127 _ rfl w.heap.size rfl _ (sgc s) (0, 0) _ R0.out Tryd.underlying127 rfl (infoSgs s) ?_)
          | (go_at_call 93; refine (CH.out _).mono ?_; rintro e w2 ⟨rfl, h2⟩; have B2 := below_via RB h2; have RO2 := RO.out.keep h2; have R2 := Lib.hid (R0.out.keep h2); have z2 := R2.out.lt; clear h2)
          | (at_builtin; refine wpList_append_own _ rfl _ _ 42 rfl (w.heap.size + 1) 3 i0 (.int .i64 0) 1 8 Tryd.underlying42 hi hz0 hz1 hz2 rfl (by decide) _ (ntsI s k).length ((ntsI s k).map (Value.int .i64)) rfl (World.ownsRow.alloc RO2 _) ⟨w2.heap.size, 0, none⟩ 1 1 [.int .i64 k] rfl rfl (cell_one_new _ _ _) (by simp [Value.oneCell']) (by have := HL.out; unfold maxLen; omega) (by have := HL.out; omega) (by simp; omega) ?_; intro v' w3 hown3 hgrow3 _))
        have B3 : Below w.heap.size w w3 := Below.grown (by (repeat' (first | (with_reducible exact Below.refl _ _) | (with_reducible assumption) | (with_reducible refine Below.drew ?_) | (with_reducible refine below_drewN ?_ _) | (with_reducible refine Below.setCell ?_ ?_ _) | (with_reducible refine Below.alloc ?_ ?_ _) | go_size | omega))) hgrow3 (by simp; omega) (fun j e => by have := (own_ge RO2 j e).1; omega)
        go_roundw
        case rel => exact ⟨k + 1, by omega, by go_num, (R2.out.alloc _).grown hgrow3 (fun g e => by have := (own_ge RO2 g e).1; omega), by rw [HN.out]; exact OwnI.snoc hown3, B3⟩
        case measure => simp [intOf]; omega
    · obtain rfl : k = 88 := by omega
      go_wp2
      go_ret
      exact ⟨_, rfl, RO.out.base (by omega), RB⟩
end Go.Proofs.YtnjlifmjjihahaaDoor
