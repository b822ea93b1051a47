/-
  The walks of Rounded and of its reference.
-/
import Derived.Test.YtbagmfnedgjndaaDoorFra
namespace Go.Proofs.YtbagmfnedgjndaaDoor
open Go.RowKit

def rouE (n d t : Int) : Int := if chkF n d ≠ 0 then chkF n d else if t < 1 then 2 else if 1000000000 < t then 2 else 0
def rouL (n d t : Int) : Int := if rouE n d t = 0 then dn (n * t) d else 0
def rouH (n d t : Int) : Int := if rouE n d t = 0 then up (n * t) d else 0
theorem mulB_bd {n t : Int} (h0 : -1000000000 ≤ n) (h1 : n ≤ 1000000000) (t0 : 0 ≤ t) (t1 : t ≤ 1000000000) : -1000000000000000000 ≤ n * t ∧ n * t ≤ 1000000000000000000 := by
  have a1 := Int.mul_le_mul_of_nonneg_right h1 t0
  have a2 := Int.mul_le_mul_of_nonneg_right h0 t0
  omega
set_option maxHeartbeats 1600000 in
theorem rounded_bad (n d t : Int) (w : World) (hn0 : -9223372036854775808 ≤ n) (hn1 : n ≤ 9223372036854775807) (hd0 : -9223372036854775808 ≤ d) (hd1 : d ≤ 9223372036854775807) (h : rouE n d t ≠ 0) :
    Calls Tryd.prog 27 #[.agg #[.int .i64 n, .int .i64 d], .int .i64 t] w fun e w' =>
      e = .returned (.tuple #[.agg #[.int .i64 (rouL n d t), .int .i64 (rouH n d t)], .int .i64 (rouE n d t)]) ∧ Below w.heap.size w w' := by
  have F1 := Lib.hid (show rouL n d t = 0 by unfold rouL; rw [if_neg h])
  have F2 := Lib.hid (show rouH n d t = 0 by unfold rouH; rw [if_neg h])
  by_cases hc : chkF n d = 0
  · have h0 : (chkF n d != 0) = false := by simpa using hc
    have F3 := Lib.hid (show rouE n d t = 2 by unfold rouE at h ⊢; rw [if_neg (by omega)] at h ⊢; split <;> (try split) <;> simp_all)
    have hh : t < 1 ∨ (1 ≤ t ∧ 1000000000 < t) := by
      unfold rouE at h; rw [if_neg (by omega)] at h
      rcases Int.lt_or_le t 1 with h1 | h1
      · exact .inl h1
      · rw [if_neg (by omega)] at h
        rcases Int.lt_or_le 1000000000 t with h2 | h2
        · exact .inr ⟨h1, h2⟩
        · rw [if_neg (by omega)] at h; exact absurd rfl h
    clear h
    rcases hh with h1 | ⟨h1, h2⟩
    all_goals
      go_enter Tryd.func27, Tryd.ntmps27
      go_wp2_with fail
      refine (chkF_any _ _ _ (by omega) (by omega) (by omega) (by omega)).mono ?_
      rintro e w1 ⟨rfl, k1⟩
      have B1 : Below w.heap.size w w1 := below_via (by go_grown) k1
      have z1 := B1.size
      obtain ⟨r0, r1, _, _⟩ := ((Box.new (w.alloc (.cells #[.int .i64 n, .int .i64 d] 23)) #[.int .i64 0, .int .i64 0] 37 (n := w.heap.size + 1) (by simp)).keep k1).two
      have z2 := k1.size
      simp at z2
      clear k1
      go_wp2_with fail
      refine bodyPost_ret (v := .tuple #[.agg #[.int .i64 (rouL n d t), .int .i64 (rouH n d t)], .int .i64 (rouE n d t)])
        (by simp [results, Tryd.results27, go_sem, r0, r1, F1.out, F2.out, F3.out]) rfl ⟨rfl, ?_⟩
      go_grown
  · have h0 : (chkF n d != 0) = true := by simpa using hc
    have F3 := Lib.hid (show rouE n d t = chkF n d by unfold rouE; rw [if_pos hc])
    clear h hc
    go_enter Tryd.func27, Tryd.ntmps27
    go_wp2_with fail
    refine (chkF_any _ _ _ (by omega) (by omega) (by omega) (by omega)).mono ?_
    rintro e w1 ⟨rfl, k1⟩
    have B1 : Below w.heap.size w w1 := below_via (by go_grown) k1
    have z1 := B1.size
    obtain ⟨r0, r1, _, _⟩ := ((Box.new (w.alloc (.cells #[.int .i64 n, .int .i64 d] 23)) #[.int .i64 0, .int .i64 0] 37 (n := w.heap.size + 1) (by simp)).keep k1).two
    have z2 := k1.size
    simp at z2
    clear k1
    go_wp2_with fail
    refine bodyPost_ret (v := .tuple #[.agg #[.int .i64 (rouL n d t), .int .i64 (rouH n d t)], .int .i64 (rouE n d t)])
      (by simp [results, Tryd.results27, go_sem, r0, r1, F1.out, F2.out, F3.out]) rfl ⟨rfl, ?_⟩
    go_grown

theorem rouE_ok {n d t : Int} (h : rouE n d t = 0) : chkF n d = 0 ∧ 1 ≤ t ∧ t ≤ 1000000000 := by
  unfold rouE at h
  by_cases hc : chkF n d = 0
  · rw [if_neg (by omega)] at h
    split at h
    · omega
    · split at h <;> omega
  · rw [if_pos hc] at h; omega
set_option maxHeartbeats 1600000 in
theorem rounded_ok (n d t : Int) (w : World) (h : rouE n d t = 0) :
    Calls Tryd.prog 27 #[.agg #[.int .i64 n, .int .i64 d], .int .i64 t] w fun e w' =>
      e = .returned (.tuple #[.agg #[.int .i64 (rouL n d t), .int .i64 (rouH n d t)], .int .i64 (rouE n d t)]) ∧ Below w.heap.size w w' := by
  have F1 := Lib.hid (show rouL n d t = dn (n * t) d by unfold rouL; rw [if_pos h])
  have F2 := Lib.hid (show rouH n d t = up (n * t) d by unfold rouH; rw [if_pos h])
  have F3 := Lib.hid h
  obtain ⟨hc, t0, t1⟩ := rouE_ok h
  obtain ⟨d0, d1, n0, n1, _⟩ := chkF_ok hc
  obtain ⟨m0, m1⟩ := mulB_bd n0 n1 (show 0 ≤ t by omega) t1
  have h0 : (chkF n d != 0) = false := by simpa using hc
  have u1 := dn_bd d0 m0 m1 (by omega)
  have u2 := up_bd (n := n * t) (m := 1000000000000000000) d0 (by omega) (by omega) (by omega)
  obtain ⟨u10, u11⟩ := u1
  obtain ⟨u20, u21⟩ := u2
  have CH := Lib.hid (fun w => chkF_any n d w (by omega) (by omega) (by omega) (by omega))
  clear h hc
  go_enter Tryd.func27, Tryd.ntmps27
  go_wp2_with fail
  refine (CH.out _).mono ?_
  rintro e w1 ⟨rfl, k1⟩
  have B1 : Below w.heap.size w w1 := below_via (by go_grown) k1
  have z1 := B1.size
  obtain ⟨r0, r1, _, _⟩ := ((Box.new (w.alloc (.cells #[.int .i64 n, .int .i64 d] 23)) #[.int .i64 0, .int .i64 0] 37 (n := w.heap.size + 1) (by simp)).keep k1).two
  obtain ⟨a0, a1, _, _⟩ := (((Box.new w #[.int .i64 n, .int .i64 d] 23 rfl).alloc (.cells #[.int .i64 0, .int .i64 0] 37)).keep k1).two
  have z2 := k1.size
  simp at z2
  clear k1
  go_wp2_with fail
  go_region_with (first | (go_at_call 75; refine (dn_any _ _ _ (by omega) (by omega) (by omega) (by omega)).mono ?_; rintro e w9 ⟨rfl, rfl⟩) | (go_at_call 76; refine (up_any _ _ _ (by omega) (by omega) (by omega) (by omega)).mono ?_; rintro e w9 ⟨rfl, rfl⟩))
  all_goals
    go_wp2_with fail
    refine bodyPost_ret (v := .tuple #[.agg #[.int .i64 (rouL n d t), .int .i64 (rouH n d t)], .int .i64 (rouE n d t)])
      (by simp [results, Tryd.results27, go_sem, r0, r1, F1.out, F2.out, F3.out]) rfl ⟨rfl, ?_⟩
    repeat' (first | (with_reducible exact Below.refl _ _) | (with_reducible assumption) | (with_reducible refine below_drewN ?_ _) | (with_reducible refine Below.drew ?_) | (with_reducible refine Below.setCell ?_ ?_ _) | (with_reducible refine Below.alloc ?_ ?_ _) | go_size)
theorem rounded_any (n d t : Int) (w : World) (hn0 : -9223372036854775808 ≤ n) (hn1 : n ≤ 9223372036854775807) (hd0 : -9223372036854775808 ≤ d) (hd1 : d ≤ 9223372036854775807) :
    Calls Tryd.prog 27 #[.agg #[.int .i64 n, .int .i64 d], .int .i64 t] w fun e w' =>
      e = .returned (.tuple #[.agg #[.int .i64 (rouL n d t), .int .i64 (rouH n d t)], .int .i64 (rouE n d t)]) ∧ Below w.heap.size w w' := by
  by_cases h : rouE n d t = 0
  · exact rounded_ok n d t w h
  · exact rounded_bad n d t w hn0 hn1 hd0 hd1 h

end Go.Proofs.YtbagmfnedgjndaaDoor
