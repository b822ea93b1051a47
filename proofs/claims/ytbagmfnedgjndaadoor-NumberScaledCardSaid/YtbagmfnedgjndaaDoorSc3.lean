/-
  The walks of the reference's down and up.
-/
import Derived.Test.YtbagmfnedgjndaaDoorSc2
namespace Go.Proofs.YtbagmfnedgjndaaDoor
open Go.RowKit
set_option maxRecDepth 100000 in
set_option maxHeartbeats 1600000 in
theorem rdown_any (x n d : Int) (w : World) (x0 : -1000000000000000 ≤ x) (x1 : x ≤ 1000000000000000) (n0 : -1000000000 ≤ n) (n1 : n ≤ 1000000000) (d0 : 1 ≤ d) (d1 : d ≤ 1000000000) :
    Calls Tryd.prog 103 #[.int .i64 x, .agg #[.int .i64 n, .int .i64 d]] w fun e w' => ∃ v : Int, e = .returned (.tuple #[.int .i64 v, .bool (pdB x n d)]) ∧ (pdB x n d = true → v = pdF x n d) ∧ (-4000000000000000 ≤ v ∧ v ≤ 4000000000000000) ∧ Below w.heap.size w w' := by
    have hdn := dn_bd (m := 1000000000000000) d0 x0 x1 (by omega)
    have hr := rem_bd x d d0
    have hrn := dnr_bd (n := n) d0 hr.1 hr.2
    have hmm := mulM2 hr.1 hr.2 d1 n0 n1
    have hs : 0 ≤ sz n ∧ sz n ≤ 1000000000 := by unfold sz; omega
    have hqs : sz (dn x d) ≤ 1000000000000000 ∧ 0 ≤ sz (dn x d) := ⟨sz_le hdn.1 hdn.2, sz_nonneg _⟩
    have HFAR := Lib.hid (fun hz h => pd_far (x := x) (n := n) d0 n0 n1 hz h)
    have HNEAR := Lib.hid (fun hz h => pd_near (x := x) (n := n) (d := d) hz h)
    have HEQ := Lib.hid (pdF_eq x n d d0)
    have hmod : x % d = x - dn x d * d := by
      have := Int.mul_ediv_add_emod x d
      unfold dn; rw [Int.mul_comm (x / d) d]; omega
    have HMO := Lib.hid (fun u : World => Mod_any x d u d0 (by omega))
    rw [hmod] at HMO
    obtain ⟨hdn0, hdn1⟩ := hdn
    obtain ⟨hr0, hr1⟩ := hr
    obtain ⟨hm0, hm1⟩ := hmm
    obtain ⟨hs0, hs1⟩ := hs
    obtain ⟨hqs0, hqs1⟩ := hqs
    clear hmod
    have hw3 : IntKind.i64.wrap ((x - dn x d * d) * n) = (x - dn x d * d) * n := IntWalk.i64_in _ (by omega)
    generalize hrr : x - dn x d * d = r at *
    have HRR := Lib.hid hrr; clear hrr
    by_cases hz : n = 0
    · subst hz
      have e1 : dn x d * 0 = 0 := Int.mul_zero _
      have e2 : r * 0 = 0 := Int.mul_zero _
      obtain ⟨hrn0, hrn1⟩ := hrn
      have hs9 : sz 0 = 0 := rfl
      have hw4 : IntKind.i64.wrap (dn x d * 0) = dn x d * 0 := IntWalk.i64_in _ (by omega)
      have hw5 : IntKind.i64.wrap (dn x d * 0 + dn (r * 0) d) = dn x d * 0 + dn (r * 0) d := IntWalk.i64_in _ (by omega)
      go_enter Tryd.func103, Tryd.ntmps103
      go_wp2_with fail
      go_quiet ((first | (go_at_call 77; refine (Floor_any _ _ _ (by omega) (by omega) d0 (by omega)).mono ?_; rintro e w9 ⟨rfl, rfl⟩; exact ⟨rfl, _, rfl⟩) | (go_at_call 106; refine (HMO.out _).mono ?_; rintro e w9 ⟨rfl, rfl⟩; exact ⟨rfl, _, rfl⟩)))
      go_wp2_with fail
      go_quiet (fail)
      go_wp2_with fail
      go_quiet ((go_at_call 77; refine (Floor_any _ _ _ (by omega) (by omega) d0 (by omega)).mono ?_; rintro e w9 ⟨rfl, rfl⟩; exact ⟨rfl, _, rfl⟩))
      go_wp2_with (go_at_call 28; refine (Within_any _ _ _ _).mono ?_; rintro e w9 ⟨rfl, rfl⟩)
      go_returns
      refine ⟨0, ?_, fun _ => (pd_zero x d).symm, ⟨by omega, by omega⟩, (by repeat' (first | (with_reducible exact Below.refl _ _) | (with_reducible assumption) | (with_reducible refine below_drewN ?_ _) | (with_reducible refine Below.drew ?_) | (with_reducible refine Below.setCell ?_ ?_ _) | (with_reducible refine Below.alloc ?_ ?_ _) | go_size | omega))⟩
      rw [show pdB x 0 d = true by unfold pdB; rw [pd_zero]; decide]
      show Ending.returned (.tuple #[.int .i64 (wrap64 (dn 0 d)), .bool (inR (wrap64 (dn 0 d)) _ _)]) = _
      rw [show dn 0 d = 0 from Int.zero_ediv d, show wrap64 0 = 0 from IntWalk.wrap64_in 0 ⟨by omega, by omega⟩, show inR 0 (-1000000000000000) 1000000000000000 = true by decide]
    · have hz' : (n != 0) = true := by simpa using hz
      have hs2 : 1 ≤ sz n := by unfold sz; omega
      have hq : 0 ≤ 2000000000000000 / sz n := Int.ediv_nonneg (by omega) (by omega)
      have hq2 : 2000000000000000 / sz n ≤ 2000000000000000 := Int.ediv_le_self _ (by omega)
      have hsn0 : (sz n == 0) = false := by simp; omega
      have hwq : IntKind.i64.wrap (2000000000000000 / sz n) = 2000000000000000 / sz n := IntWalk.i64_in _ (by omega)
      have hwq2 : (2000000000000000 : Int).tdiv (sz n) = 2000000000000000 / sz n := Int.tdiv_eq_ediv_of_nonneg (by omega)
      by_cases hf : 2000000000000000 / sz n < sz (dn x d)
      · have HB := Lib.hid (HFAR.out hz hf)
        go_enter Tryd.func103, Tryd.ntmps103
        go_wp2_with fail
        go_quiet ((first | (go_at_call 77; refine (Floor_any _ _ _ (by omega) (by omega) d0 (by omega)).mono ?_; rintro e w9 ⟨rfl, rfl⟩; exact ⟨rfl, _, rfl⟩) | (go_at_call 106; refine (HMO.out _).mono ?_; rintro e w9 ⟨rfl, rfl⟩; exact ⟨rfl, _, rfl⟩)))
        go_wp2_with fail
        go_quiet ((go_at_call 56; refine (Abs_any _ _ (by omega) (by omega)).mono ?_; rintro e w9 ⟨rfl, rfl⟩; exact ⟨rfl, _, rfl⟩))
        go_wp2_with fail
        go_returns
        exact ⟨0, by rw [HB.out]; rfl, fun h => (by rw [HB.out] at h; cases h), ⟨by omega, by omega⟩, (by repeat' (first | (with_reducible exact Below.refl _ _) | (with_reducible assumption) | (with_reducible refine below_drewN ?_ _) | (with_reducible refine Below.drew ?_) | (with_reducible refine Below.setCell ?_ ?_ _) | (with_reducible refine Below.alloc ?_ ?_ _) | go_size | omega))⟩
      · have HN := HNEAR.out hz (by omega)
        obtain ⟨hn0, hn1⟩ := HN
        obtain ⟨hrn0, hrn1⟩ := hrn
        have hw4 : IntKind.i64.wrap (dn x d * n) = dn x d * n := IntWalk.i64_in _ (by omega)
        have hw5 : IntKind.i64.wrap (dn x d * n + dn (r * n) d) = dn x d * n + dn (r * n) d := IntWalk.i64_in _ (by omega)
        go_enter Tryd.func103, Tryd.ntmps103
        go_wp2_with fail
        go_quiet ((first | (go_at_call 77; refine (Floor_any _ _ _ (by omega) (by omega) d0 (by omega)).mono ?_; rintro e w9 ⟨rfl, rfl⟩; exact ⟨rfl, _, rfl⟩) | (go_at_call 106; refine (HMO.out _).mono ?_; rintro e w9 ⟨rfl, rfl⟩; exact ⟨rfl, _, rfl⟩)))
        go_wp2_with fail
        go_quiet ((go_at_call 56; refine (Abs_any _ _ (by omega) (by omega)).mono ?_; rintro e w9 ⟨rfl, rfl⟩; exact ⟨rfl, _, rfl⟩))
        go_wp2_with fail
        go_quiet ((go_at_call 77; refine (Floor_any _ _ _ (by omega) (by omega) d0 (by omega)).mono ?_; rintro e w9 ⟨rfl, rfl⟩; exact ⟨rfl, _, rfl⟩))
        have HI := Lib.hid (show inR (dn x d * n + dn (r * n) d) (-1000000000000000) 1000000000000000 = pdB x n d by unfold inR pdB; rw [HEQ.out])
        go_wp2_with (go_at_call 28; refine (Within_any _ _ _ _).mono ?_; rintro e w9 ⟨rfl, rfl⟩)
        go_returns
        exact ⟨_, by rw [← HI.out]; rfl, fun _ => HEQ.out.symm, ⟨by omega, by omega⟩, (by repeat' (first | (with_reducible exact Below.refl _ _) | (with_reducible assumption) | (with_reducible refine below_drewN ?_ _) | (with_reducible refine Below.drew ?_) | (with_reducible refine Below.setCell ?_ ?_ _) | (with_reducible refine Below.alloc ?_ ?_ _) | go_size | omega))⟩
set_option maxRecDepth 100000 in
set_option maxHeartbeats 1600000 in
theorem rup_any (x n d : Int) (w : World) (x0 : -1000000000000000 ≤ x) (x1 : x ≤ 1000000000000000) (n0 : -1000000000 ≤ n) (n1 : n ≤ 1000000000) (d0 : 1 ≤ d) (d1 : d ≤ 1000000000) :
    Calls Tryd.prog 104 #[.int .i64 x, .agg #[.int .i64 n, .int .i64 d]] w fun e w' => ∃ v : Int, e = .returned (.tuple #[.int .i64 (-v), .bool (pdB (-x) n d)]) ∧ (pdB (-x) n d = true → v = pdF (-x) n d) ∧ (-4000000000000000 ≤ v ∧ v ≤ 4000000000000000) ∧ Below w.heap.size w w' := by
  have D := Lib.hid (fun u : World => rdown_any (-x) n d u (by omega) (by omega) n0 n1 d0 d1)
  go_enter Tryd.func104, Tryd.ntmps104
  go_wp2_with fail
  refine (D.out _).mono ?_
  rintro e w1 ⟨v, rfl, hv, ⟨v0, v1⟩, h1⟩
  have HV := Lib.hid hv; clear hv
  have B1 : Below w.heap.size w w1 := below_via (by go_grown) h1
  clear h1
  go_wp2_with fail
  go_returns
  exact ⟨v, rfl, HV.out, ⟨v0, v1⟩, by go_grown⟩
end Go.Proofs.YtbagmfnedgjndaaDoor
