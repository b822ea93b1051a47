/-
  The walks of productDown and of the reference's down and up: one product rounded down.
-/
import Derived.Test.YtbagmfnedgjndaaDoorSca
namespace Go.Proofs.YtbagmfnedgjndaaDoor
open Go.RowKit
theorem mulM2 {r n d : Int} (h0 : 0 ≤ r) (h1 : r < d) (d1 : d ≤ 1000000000) (n0 : -1000000000 ≤ n) (n1 : n ≤ 1000000000) : -1000000000000000000 ≤ r * n ∧ r * n ≤ 1000000000000000000 := by
  have a1 := Int.mul_le_mul_of_nonneg_left n1 h0
  have a0 := Int.mul_le_mul_of_nonneg_left n0 h0
  omega
set_option maxRecDepth 100000 in
set_option maxHeartbeats 1600000 in
theorem pd_any (x n d : Int) (w : World) (x0 : -1000000000000000 ≤ x) (x1 : x ≤ 1000000000000000) (n0 : -1000000000 ≤ n) (n1 : n ≤ 1000000000) (d0 : 1 ≤ d) (d1 : d ≤ 1000000000) :
    Calls Tryd.prog 102 #[.int .i64 x, .agg #[.int .i64 n, .int .i64 d]] w fun e w' => ∃ v : Int, e = .returned (.tuple #[.int .i64 v, .bool (pdB x n d)]) ∧ (pdB x n d = true → v = pdF x n d) ∧ Below w.heap.size w w' := by
  by_cases hz : n = 0
  · subst hz
    have HB := Lib.hid (show pdB x 0 d = true by unfold pdB; rw [pd_zero]; decide)
    have HF := Lib.hid (pd_zero x d)
    go_enter Tryd.func102, Tryd.ntmps102
    go_wp2_with fail
    go_returns
    exact ⟨0, by rw [HB.out]; rfl, fun _ => HF.out.symm, by go_grown⟩
  · have hz' : (n == 0) = false := by simpa using hz
    have hdn := dn_bd (m := 1000000000000000) d0 x0 x1 (by omega)
    have hr := rem_bd x d d0
    have hrn := dnr_bd (n := n) d0 hr.1 hr.2
    have hmm := mulM2 hr.1 hr.2 d1 n0 n1
    have hs : 1 ≤ sz n ∧ sz n ≤ 1000000000 := by unfold sz; omega
    have hq : 0 ≤ 2000000000000000 / sz n := Int.ediv_nonneg (by omega) (by omega)
    have hq2 : 2000000000000000 / sz n ≤ 2000000000000000 := Int.ediv_le_self _ (by omega)
    have hqs : sz (dn x d) ≤ 1000000000000000 ∧ 0 ≤ sz (dn x d) := ⟨sz_le hdn.1 hdn.2, sz_nonneg _⟩
    have HFAR := Lib.hid (fun h => pd_far (x := x) (n := n) d0 n0 n1 hz h)
    have HNEAR := Lib.hid (fun h => pd_near (x := x) (n := n) (d := d) hz h)
    have HEQ := Lib.hid (pdF_eq x n d d0)
    have hsn0 : (sz n == 0) = false := by simp; omega
    obtain ⟨hdn0, hdn1⟩ := hdn
    obtain ⟨hr0, hr1⟩ := hr
    obtain ⟨hm0, hm1⟩ := hmm
    obtain ⟨hs0, hs1⟩ := hs
    obtain ⟨hqs0, hqs1⟩ := hqs
    have hqd : x - dn x d * d + dn x d * d = x := by omega
    have hw1 : IntKind.i64.wrap (dn x d * d) = dn x d * d := IntWalk.i64_in _ (by omega)
    have hw2 : IntKind.i64.wrap (x - dn x d * d) = x - dn x d * d := IntWalk.i64_in _ (by omega)
    have hw3 : IntKind.i64.wrap ((x - dn x d * d) * n) = (x - dn x d * d) * n := IntWalk.i64_in _ (by omega)
    have hwq : IntKind.u64.wrap (2000000000000000 / sz n) = 2000000000000000 / sz n := IntWalk.u64_in _ (by omega)
    by_cases hf : 2000000000000000 / sz n < sz (dn x d)
    · have HB := Lib.hid (HFAR.out hf)
      go_enter Tryd.func102, Tryd.ntmps102
      go_wp2_with (first | (go_at_call 75; refine (dn_any _ _ _ (by omega) (by omega) d0 (by omega)).mono ?_; rintro e w' ⟨rfl, rfl⟩))
      go_quiet ((go_at_call 71; refine (size_any _ _ (by omega) (by omega)).mono ?_; rintro e w9 ⟨rfl, rfl⟩; exact ⟨rfl, _, rfl⟩))
      go_wp2_with fail
      go_returns
      exact ⟨0, by rw [HB.out]; rfl, fun h => (by rw [HB.out] at h; cases h), (by repeat' (first | (with_reducible exact Below.refl _ _) | (with_reducible assumption) | (with_reducible refine below_drewN ?_ _) | (with_reducible refine Below.drew ?_) | (with_reducible refine Below.setCell ?_ ?_ _) | (with_reducible refine Below.alloc ?_ ?_ _) | go_size | omega))⟩
    · have HN := HNEAR.out (by omega)
      obtain ⟨hn0, hn1⟩ := HN
      obtain ⟨hrn0, hrn1⟩ := hrn
      have hw4 : IntKind.i64.wrap (dn x d * n) = dn x d * n := IntWalk.i64_in _ (by omega)
      have hw5 : IntKind.i64.wrap (dn x d * n + dn ((x - dn x d * d) * n) d) = dn x d * n + dn ((x - dn x d * d) * n) d := IntWalk.i64_in _ (by omega)
      go_enter Tryd.func102, Tryd.ntmps102
      go_wp2_with (first | (go_at_call 75; refine (dn_any _ _ _ (by omega) (by omega) d0 (by omega)).mono ?_; rintro e w' ⟨rfl, rfl⟩))
      go_quiet ((go_at_call 71; refine (size_any _ _ (by omega) (by omega)).mono ?_; rintro e w9 ⟨rfl, rfl⟩; exact ⟨rfl, _, rfl⟩))
      go_wp2_with fail
      go_quiet ((go_at_call 75; refine (dn_any _ _ _ (by omega) (by omega) d0 (by omega)).mono ?_; rintro e w9 ⟨rfl, rfl⟩; exact ⟨rfl, _, rfl⟩))
      have HI := Lib.hid (show inB (dn x d * n + dn ((x - dn x d * d) * n) d) 1000000000000000 = pdB x n d by unfold inB pdB; rw [HEQ.out])
      go_wp2_with (go_at_call 72; refine (within_any _ _ _ (by omega) (by omega)).mono ?_; rintro e w9 ⟨rfl, rfl⟩)
      go_returns
      exact ⟨_, by rw [← HI.out]; rfl, fun _ => HEQ.out.symm, (by repeat' (first | (with_reducible exact Below.refl _ _) | (with_reducible assumption) | (with_reducible refine below_drewN ?_ _) | (with_reducible refine Below.drew ?_) | (with_reducible refine Below.setCell ?_ ?_ _) | (with_reducible refine Below.alloc ?_ ?_ _) | go_size | omega))⟩
end Go.Proofs.YtbagmfnedgjndaaDoor
