/-
  Margins: the walks of Margin, of its reference, and of the law PlateMargins.
-/
import Derived.Test.YtgmiimpimoipcaaAwk3
namespace Go.Proofs.Ytgmiimpimoipcaa
open Go.RowKit
def mErr (n d : Int) : Int := if isL n d = false then 3 else if inR n 0 1000000 && decide (d ≤ 1000000) then 0 else 2
theorem mErr_ok {n d : Int} (h : mErr n d = 0) : 1 ≤ d ∧ d ≤ 1000000 ∧ 0 ≤ n ∧ n ≤ 1000000 := by
  unfold mErr at h
  split at h
  · omega
  · rename_i h1
    split at h
    · rename_i h2
      unfold isL at h1; unfold inR at h2
      simp at h1 h2; omega
    · omega
theorem chkF_mErr (n d : Int) : (chkF n d = 0 → mErr n d = if inR n 0 1000000 && decide (d ≤ 1000000) then 0 else 2) ∧ (chkF n d ≠ 0 → mErr n d = chkF n d) := by
  unfold chkF mErr isL
  by_cases h1 : d < 1
  · simp [h1, show ¬ (0 < d) by omega]
  · by_cases h2 : gcdI n d = 1
    · simp only [if_neg h1, h2]
      have h3 : 0 < d := by omega
      simp only [h3, decide_true, Bool.and_true, ne_eq, not_true, if_false, Bool.true_eq_false]
      cases hs : (inB n 1000000000 && decide (d ≤ 1000000000))
      · have : (inR n 0 1000000 && decide (d ≤ 1000000)) = false := by
          cases hx : (inR n 0 1000000 && decide (d ≤ 1000000))
          · rfl
          · exfalso
            unfold inR at hx; unfold inB at hs; simp at hx hs; omega
        simp [this]
      · simp
    · simp [h1, h2, show 0 < d by omega]
set_option maxHeartbeats 1600000 in
theorem marginError_any (n d : Int) (w : World) (n0 : -9223372036854775808 ≤ n) (n1 : n ≤ 9223372036854775807) (d0 : -9223372036854775808 ≤ d) (d1 : d ≤ 9223372036854775807) :
    Calls Try.prog 67 #[.agg #[.int .i64 n, .int .i64 d]] w fun e w' => e = .returned (.int .i64 (mErr n d)) ∧ Below w.heap.size w w' := by
  have CK := Lib.hid (fun u => chkF_any n d u n0 n1 d0 d1)
  by_cases hc : chkF n d = 0
  · have F := Lib.hid ((chkF_mErr n d).1 hc)
    rw [hc] at CK
    clear hc
    cases h1 : inR n 0 1000000 <;> by_cases h2 : d ≤ 1000000
    all_goals
      rw [h1] at F
      have H2 := Lib.hid h2
      go_enter Try.func67, Try.ntmps67
      go_wp2_with fail
      refine (CK.out _).mono ?_
      rintro e w1 ⟨rfl, h⟩
      have B1 : Below w.heap.size w w1 := below_via (by (repeat' (first | (with_reducible exact Below.refl _ _) | (with_reducible assumption) | (with_reducible refine Below.drew ?_) | (with_reducible refine below_drewN ?_ _) | (with_reducible refine Below.setCell ?_ ?_ _) | (with_reducible refine Below.alloc ?_ ?_ _) | go_size | omega))) h
      have A1 := Lib.hid ((Box.new w #[.int .i64 n, .int .i64 d] 63 rfl).keep h)
      clear h
      obtain ⟨a0, a1, -⟩ := A1.out.two
      go_wp2_with (go_at_call 59; refine (between_any _ _ _ _).mono ?_; rintro e w1 ⟨rfl, rfl⟩)
      go_ret
      exact ⟨ret_int (by rw [F.out]; simp [H2.out] <;> omega), by assumption⟩
  · have F := Lib.hid ((chkF_mErr n d).2 hc)
    have hne : (chkF n d != 0) = true := by simpa using hc
    clear hc
    generalize chkF n d = c at *
    go_enter Try.func67, Try.ntmps67
    go_wp2_with fail
    refine (CK.out _).mono ?_
    rintro e w1 ⟨rfl, h⟩
    have B1 : Below w.heap.size w w1 := below_via (by (repeat' (first | (with_reducible exact Below.refl _ _) | (with_reducible assumption) | (with_reducible refine Below.drew ?_) | (with_reducible refine below_drewN ?_ _) | (with_reducible refine Below.setCell ?_ ?_ _) | (with_reducible refine Below.alloc ?_ ?_ _) | go_size | omega))) h
    clear h
    go_wp2_with fail
    go_ret
    exact ⟨ret_int (by rw [F.out]), by assumption⟩
set_option maxHeartbeats 1600000 in
theorem part_any (n d : Int) (w : World) (n0 : -9223372036854775808 ≤ n) (n1 : n ≤ 9223372036854775807) (d0 : -9223372036854775808 ≤ d) (d1 : d ≤ 9223372036854775807) :
    Calls Try.prog 69 #[.agg #[.int .i64 n, .int .i64 d]] w fun e w' => e = .returned (.int .i64 (mErr n d)) ∧ Below w.heap.size w w' := by
  have CK := Lib.hid (fun u => isLowest_any n d u n0 n1 d0 d1)
  cases hc : isL n d
  · have F := Lib.hid (show mErr n d = 3 by unfold mErr; rw [if_pos hc])
    rw [hc] at CK
    go_enter Try.func69, Try.ntmps69
    go_wp2_with fail
    refine (CK.out _).mono ?_
    rintro e w1 ⟨rfl, h⟩
    have B1 : Below w.heap.size w w1 := below_via (by (repeat' (first | (with_reducible exact Below.refl _ _) | (with_reducible assumption) | (with_reducible refine Below.drew ?_) | (with_reducible refine below_drewN ?_ _) | (with_reducible refine Below.setCell ?_ ?_ _) | (with_reducible refine Below.alloc ?_ ?_ _) | go_size | omega))) h
    clear h
    go_wp2_with fail
    go_ret
    exact ⟨ret_int (by rw [F.out]), by assumption⟩
  · have F := Lib.hid (show mErr n d = if inR n 0 1000000 && decide (d ≤ 1000000) then 0 else 2 by unfold mErr; rw [if_neg (by rw [hc]; simp)])
    rw [hc] at CK
    clear hc
    cases h1 : inR n 0 1000000 <;> by_cases h2 : d ≤ 1000000
    all_goals
      rw [h1] at F
      have H2 := Lib.hid h2
      go_enter Try.func69, Try.ntmps69
      go_wp2_with fail
      refine (CK.out _).mono ?_
      rintro e w1 ⟨rfl, h⟩
      have B1 : Below w.heap.size w w1 := below_via (by (repeat' (first | (with_reducible exact Below.refl _ _) | (with_reducible assumption) | (with_reducible refine Below.drew ?_) | (with_reducible refine below_drewN ?_ _) | (with_reducible refine Below.setCell ?_ ?_ _) | (with_reducible refine Below.alloc ?_ ?_ _) | go_size | omega))) h
      have A1 := Lib.hid ((Box.new w #[.int .i64 n, .int .i64 d] 63 rfl).keep h)
      clear h
      obtain ⟨a0, a1, -⟩ := A1.out.two
      go_wp2_with (go_at_call 30; refine (Within_any _ _ _ _).mono ?_; rintro e w1 ⟨rfl, rfl⟩)
      go_ret
      exact ⟨ret_int (by rw [F.out]; simp [H2.out] <;> omega), by assumption⟩
def mgE (a b c d : Int) : Int := if mErr a b ≠ 0 then mErr a b else if mErr c d ≠ 0 then mErr c d else if a = 0 then 11 else 0
def mgV (a b c d : Int) : Int := if mgE a b c d = 0 then dn (1000 * c * b) (d * a) else 0
theorem mg_bd {a b c d : Int} (h1 : mErr a b = 0) (h2 : mErr c d = 0) (ha : a ≠ 0) : (0 ≤ 1000 * c ∧ 1000 * c ≤ 1000000000) ∧ (0 ≤ 1000 * c * b ∧ 1000 * c * b ≤ 1000000000000000) ∧ (1 ≤ d * a ∧ d * a ≤ 1000000000000) := by
  obtain ⟨b0, b1, a0, a1⟩ := mErr_ok h1
  obtain ⟨d0, d1, c0, c1⟩ := mErr_ok h2
  have m1 := mul_bd (show -1000000000 ≤ 1000 * c by omega) (show 1000 * c ≤ 1000000000 by omega) (show -1000000 ≤ b by omega) b1
  have m2 : 0 ≤ 1000 * c * b := Int.mul_nonneg (by omega) (by omega)
  have m3 := mul_bd (show -1000000 ≤ d by omega) d1 (show -1000000 ≤ a by omega) a1
  have m4 := Int.mul_le_mul d0 (show 1 ≤ a by omega) (by omega) (by omega)
  omega
set_option maxRecDepth 100000 in
set_option maxHeartbeats 1600000 in
theorem margin_any (a b c d : Int) (w : World) (a0 : -9223372036854775808 ≤ a) (a1 : a ≤ 9223372036854775807) (b0 : -9223372036854775808 ≤ b) (b1 : b ≤ 9223372036854775807) (c0 : -9223372036854775808 ≤ c) (c1 : c ≤ 9223372036854775807) (d0 : -9223372036854775808 ≤ d) (d1 : d ≤ 9223372036854775807) :
    Calls Try.prog 38 #[.agg #[.int .i64 a, .int .i64 b], .agg #[.int .i64 c, .int .i64 d]] w fun e w' => e = .returned (.tuple #[.int .i64 (mgV a b c d), .int .i64 (mgE a b c d)]) ∧ Below w.heap.size w w' := by
  have C1 := Lib.hid (fun u => marginError_any a b u a0 a1 b0 b1)
  have C2 := Lib.hid (fun u => marginError_any c d u c0 c1 d0 d1)
  have i0 : ∀ v : World, (Instr.index 106 (.agg #[.int .i64 a, .int .i64 b, .int .i64 c, .int .i64 d]) (.int .i64 0)).run Try.prog v = .ok (.agg #[.int .i64 a, .int .i64 b]) v := fun _ => by kernel_rfl
  have i1 : ∀ v : World, (Instr.index 106 (.agg #[.int .i64 a, .int .i64 b, .int .i64 c, .int .i64 d]) (.int .i64 1)).run Try.prog v = .ok (.agg #[.int .i64 c, .int .i64 d]) v := fun _ => by kernel_rfl
  by_cases h1 : mErr a b = 0
  · by_cases h2 : mErr c d = 0
    · by_cases h3 : a = 0
      · have F1 := Lib.hid (show mgE a b c d = 11 by unfold mgE; rw [if_neg (by omega), if_neg (by omega), if_pos h3])
        have F2 := Lib.hid (show mgV a b c d = 0 by unfold mgV mgE; rw [if_neg]; rw [if_neg (by omega), if_neg (by omega), if_pos h3]; omega)
        rw [h1] at C1; rw [h2] at C2
        have hz : (a == 0) = true := by simpa using h3
        clear h1 h2 h3
        go_enter Try.func38, Try.ntmps38
        go_wp2_with fail
        refine wp_loop_rounds 3 ?_
        rw [rounds_succ]
        go_wp2_with fail
        refine (C1.out _).mono ?_
        rintro e w1 ⟨rfl, h⟩
        have B1 : Below w.heap.size w w1 := below_via (by (repeat' (first | (with_reducible exact Below.refl _ _) | (with_reducible assumption) | (with_reducible refine Below.drew ?_) | (with_reducible refine below_drewN ?_ _) | (with_reducible refine Below.setCell ?_ ?_ _) | (with_reducible refine Below.alloc ?_ ?_ _) | go_size | omega))) h
        have z1 := h.size
        simp at z1
        have L1 := Lib.hid (((((Box.new w #[.int .i64 a, .int .i64 b] 63 rfl).alloc (.cells #[.int .i64 c, .int .i64 d] 63)).alloc (.cells #[.int .i64 a, .int .i64 b] 63))).keep h); have M1 := Lib.hid (((Box.new (w.alloc (.cells #[.int .i64 a, .int .i64 b] 63)) #[.int .i64 c, .int .i64 d] 63 (n := w.heap.size + 1) (by simp)).alloc (.cells #[.int .i64 a, .int .i64 b] 63)).keep h)
        clear h
        obtain ⟨x0, x1, -⟩ := L1.out.two
        obtain ⟨y0, y1, -⟩ := M1.out.two
        go_wp2_with fail
        rw [rounds_succ]
        go_wp2_with fail
        refine (C2.out _).mono ?_
        rintro e w2 ⟨rfl, h⟩
        have B2 : Below w.heap.size w w2 := below_via (by (repeat' (first | (with_reducible exact Below.refl _ _) | (with_reducible assumption) | (with_reducible refine Below.drew ?_) | (with_reducible refine below_drewN ?_ _) | (with_reducible refine Below.setCell ?_ ?_ _) | (with_reducible refine Below.alloc ?_ ?_ _) | go_size | omega))) h
        have L2 := Lib.hid ((L1.out.alloc (.cells #[.int .i64 c, .int .i64 d] 63)).keep h); have M2 := Lib.hid ((M1.out.alloc (.cells #[.int .i64 c, .int .i64 d] 63)).keep h)
        clear h x0 x1 y0 y1 L1 M1
        obtain ⟨x0, x1, -⟩ := L2.out.two
        obtain ⟨y0, y1, -⟩ := M2.out.two
        go_wp2_with fail
        rw [rounds_succ]
        go_wp2_with fail
        go_ret2
        exact ⟨by rw [F1.out, F2.out]; rfl, by assumption⟩
      · obtain ⟨⟨p0, p1⟩, ⟨p2, p3⟩, p4, p5⟩ := mg_bd h1 h2 h3
        have F1 := Lib.hid (show mgE a b c d = 0 by unfold mgE; rw [if_neg (by omega), if_neg (by omega), if_neg h3])
        have F2 := Lib.hid (show mgV a b c d = dn (1000 * c * b) (d * a) by unfold mgV; rw [if_pos F1.out])
        rw [h1] at C1; rw [h2] at C2
        have hz : (a == 0) = false := by simpa using h3
        have CD := Lib.hid (fun u => dn_any (1000 * c * b) (d * a) u (by omega) (by omega) p4 (by omega))
        clear h1 h2 h3
        go_enter Try.func38, Try.ntmps38
        go_wp2_with fail
        refine wp_loop_rounds 3 ?_
        rw [rounds_succ]
        go_wp2_with fail
        refine (C1.out _).mono ?_
        rintro e w1 ⟨rfl, h⟩
        have B1 : Below w.heap.size w w1 := below_via (by (repeat' (first | (with_reducible exact Below.refl _ _) | (with_reducible assumption) | (with_reducible refine Below.drew ?_) | (with_reducible refine below_drewN ?_ _) | (with_reducible refine Below.setCell ?_ ?_ _) | (with_reducible refine Below.alloc ?_ ?_ _) | go_size | omega))) h
        have z1 := h.size
        simp at z1
        have L1 := Lib.hid (((((Box.new w #[.int .i64 a, .int .i64 b] 63 rfl).alloc (.cells #[.int .i64 c, .int .i64 d] 63)).alloc (.cells #[.int .i64 a, .int .i64 b] 63))).keep h); have M1 := Lib.hid (((Box.new (w.alloc (.cells #[.int .i64 a, .int .i64 b] 63)) #[.int .i64 c, .int .i64 d] 63 (n := w.heap.size + 1) (by simp)).alloc (.cells #[.int .i64 a, .int .i64 b] 63)).keep h)
        clear h
        obtain ⟨x0, x1, -⟩ := L1.out.two
        obtain ⟨y0, y1, -⟩ := M1.out.two
        go_wp2_with fail
        rw [rounds_succ]
        go_wp2_with fail
        refine (C2.out _).mono ?_
        rintro e w2 ⟨rfl, h⟩
        have B2 : Below w.heap.size w w2 := below_via (by (repeat' (first | (with_reducible exact Below.refl _ _) | (with_reducible assumption) | (with_reducible refine Below.drew ?_) | (with_reducible refine below_drewN ?_ _) | (with_reducible refine Below.setCell ?_ ?_ _) | (with_reducible refine Below.alloc ?_ ?_ _) | go_size | omega))) h
        have L2 := Lib.hid ((L1.out.alloc (.cells #[.int .i64 c, .int .i64 d] 63)).keep h); have M2 := Lib.hid ((M1.out.alloc (.cells #[.int .i64 c, .int .i64 d] 63)).keep h)
        clear h x0 x1 y0 y1 L1 M1
        obtain ⟨x0, x1, -⟩ := L2.out.two
        obtain ⟨y0, y1, -⟩ := M2.out.two
        go_wp2_with fail
        rw [rounds_succ]
        go_wp2_with fail
        refine (CD.out _).mono ?_
        rintro e w3 ⟨rfl, rfl⟩
        go_wp2_with fail
        go_ret2
        exact ⟨by rw [F1.out, F2.out]; rfl, by assumption⟩
    · have F1 := Lib.hid (show mgE a b c d = mErr c d by unfold mgE; rw [if_neg (by omega), if_pos h2])
      have F2 := Lib.hid (show mgV a b c d = 0 by unfold mgV; rw [if_neg (by rw [F1.out]; exact h2)])
      have hne : (mErr c d != 0) = true := by simpa using h2
      rw [h1] at C1
      clear h1 h2
      generalize mErr c d = E at *
      go_enter Try.func38, Try.ntmps38
      go_wp2_with fail
      refine wp_loop_rounds 3 ?_
      rw [rounds_succ]
      go_wp2_with fail
      refine (C1.out _).mono ?_
      rintro e w1 ⟨rfl, h⟩
      have B1 : Below w.heap.size w w1 := below_via (by (repeat' (first | (with_reducible exact Below.refl _ _) | (with_reducible assumption) | (with_reducible refine Below.drew ?_) | (with_reducible refine below_drewN ?_ _) | (with_reducible refine Below.setCell ?_ ?_ _) | (with_reducible refine Below.alloc ?_ ?_ _) | go_size | omega))) h
      have z1 := h.size
      simp at z1
      have L1 := Lib.hid (((((Box.new w #[.int .i64 a, .int .i64 b] 63 rfl).alloc (.cells #[.int .i64 c, .int .i64 d] 63)).alloc (.cells #[.int .i64 a, .int .i64 b] 63))).keep h); have M1 := Lib.hid (((Box.new (w.alloc (.cells #[.int .i64 a, .int .i64 b] 63)) #[.int .i64 c, .int .i64 d] 63 (n := w.heap.size + 1) (by simp)).alloc (.cells #[.int .i64 a, .int .i64 b] 63)).keep h)
      clear h
      obtain ⟨x0, x1, -⟩ := L1.out.two
      obtain ⟨y0, y1, -⟩ := M1.out.two
      go_wp2_with fail
      rw [rounds_succ]
      go_wp2_with fail
      refine (C2.out _).mono ?_
      rintro e w2 ⟨rfl, h⟩
      have B2 : Below w.heap.size w w2 := below_via (by (repeat' (first | (with_reducible exact Below.refl _ _) | (with_reducible assumption) | (with_reducible refine Below.drew ?_) | (with_reducible refine below_drewN ?_ _) | (with_reducible refine Below.setCell ?_ ?_ _) | (with_reducible refine Below.alloc ?_ ?_ _) | go_size | omega))) h
      have L2 := Lib.hid ((L1.out.alloc (.cells #[.int .i64 c, .int .i64 d] 63)).keep h); have M2 := Lib.hid ((M1.out.alloc (.cells #[.int .i64 c, .int .i64 d] 63)).keep h)
      clear h x0 x1 y0 y1 L1 M1
      obtain ⟨x0, x1, -⟩ := L2.out.two
      obtain ⟨y0, y1, -⟩ := M2.out.two
      go_wp2_with fail
      go_ret2
      exact ⟨by rw [F1.out, F2.out]; rfl, by assumption⟩
  · have F1 := Lib.hid (show mgE a b c d = mErr a b by unfold mgE; rw [if_pos h1])
    have F2 := Lib.hid (show mgV a b c d = 0 by unfold mgV; rw [if_neg (by rw [F1.out]; exact h1)])
    have hne : (mErr a b != 0) = true := by simpa using h1
    clear h1
    generalize mErr a b = E at *
    go_enter Try.func38, Try.ntmps38
    go_wp2_with fail
    refine wp_loop_rounds 3 ?_
    rw [rounds_succ]
    go_wp2_with fail
    refine (C1.out _).mono ?_
    rintro e w1 ⟨rfl, h⟩
    have B1 : Below w.heap.size w w1 := below_via (by (repeat' (first | (with_reducible exact Below.refl _ _) | (with_reducible assumption) | (with_reducible refine Below.drew ?_) | (with_reducible refine below_drewN ?_ _) | (with_reducible refine Below.setCell ?_ ?_ _) | (with_reducible refine Below.alloc ?_ ?_ _) | go_size | omega))) h
    have z1 := h.size
    simp at z1
    have L1 := Lib.hid (((((Box.new w #[.int .i64 a, .int .i64 b] 63 rfl).alloc (.cells #[.int .i64 c, .int .i64 d] 63)).alloc (.cells #[.int .i64 a, .int .i64 b] 63))).keep h); have M1 := Lib.hid (((Box.new (w.alloc (.cells #[.int .i64 a, .int .i64 b] 63)) #[.int .i64 c, .int .i64 d] 63 (n := w.heap.size + 1) (by simp)).alloc (.cells #[.int .i64 a, .int .i64 b] 63)).keep h)
    clear h
    obtain ⟨x0, x1, -⟩ := L1.out.two
    obtain ⟨y0, y1, -⟩ := M1.out.two
    go_wp2_with fail
    go_ret2
    exact ⟨by rw [F1.out, F2.out]; rfl, by assumption⟩
set_option maxRecDepth 100000 in
set_option maxHeartbeats 1600000 in
theorem rmargin_any (a b c d : Int) (w : World) (a0 : -9223372036854775808 ≤ a) (a1 : a ≤ 9223372036854775807) (b0 : -9223372036854775808 ≤ b) (b1 : b ≤ 9223372036854775807) (c0 : -9223372036854775808 ≤ c) (c1 : c ≤ 9223372036854775807) (d0 : -9223372036854775808 ≤ d) (d1 : d ≤ 9223372036854775807) :
    Calls Try.prog 39 #[.agg #[.int .i64 a, .int .i64 b], .agg #[.int .i64 c, .int .i64 d]] w fun e w' => e = .returned (.tuple #[.int .i64 (mgV a b c d), .int .i64 (mgE a b c d)]) ∧ Below w.heap.size w w' := by
  have C1 := Lib.hid (fun u => part_any a b u a0 a1 b0 b1)
  have C2 := Lib.hid (fun u => part_any c d u c0 c1 d0 d1)
  by_cases h1 : mErr a b = 0
  · by_cases h2 : mErr c d = 0
    · by_cases h3 : a = 0
      · have F1 := Lib.hid (show mgE a b c d = 11 by unfold mgE; rw [if_neg (by omega), if_neg (by omega), if_pos h3])
        have F2 := Lib.hid (show mgV a b c d = 0 by unfold mgV mgE; rw [if_neg]; rw [if_neg (by omega), if_neg (by omega), if_pos h3]; omega)
        rw [h1] at C1; rw [h2] at C2
        have hz : (a == 0) = true := by simpa using h3
        clear h1 h2 h3
        go_enter Try.func39, Try.ntmps39
        go_wp2_with fail
        refine (C1.out _).mono ?_
        rintro e w1 ⟨rfl, h⟩
        have B1 : Below w.heap.size w w1 := below_via (by (repeat' (first | (with_reducible exact Below.refl _ _) | (with_reducible assumption) | (with_reducible refine Below.drew ?_) | (with_reducible refine below_drewN ?_ _) | (with_reducible refine Below.setCell ?_ ?_ _) | (with_reducible refine Below.alloc ?_ ?_ _) | go_size | omega))) h
        have z1 := h.size
        simp at z1
        have L1 := Lib.hid (((Box.new w #[.int .i64 a, .int .i64 b] 63 rfl).alloc (.cells #[.int .i64 c, .int .i64 d] 63)).keep h); have M1 := Lib.hid ((Box.new (w.alloc (.cells #[.int .i64 a, .int .i64 b] 63)) #[.int .i64 c, .int .i64 d] 63 (n := w.heap.size + 1) (by simp)).keep h)
        clear h
        obtain ⟨x0, x1, -⟩ := L1.out.two
        obtain ⟨y0, y1, -⟩ := M1.out.two
        go_wp2_with fail
        refine (C2.out _).mono ?_
        rintro e w2 ⟨rfl, h⟩
        have B2 : Below w.heap.size w w2 := below_via (by (repeat' (first | (with_reducible exact Below.refl _ _) | (with_reducible assumption) | (with_reducible refine Below.drew ?_) | (with_reducible refine below_drewN ?_ _) | (with_reducible refine Below.setCell ?_ ?_ _) | (with_reducible refine Below.alloc ?_ ?_ _) | go_size | omega))) h
        have L2 := Lib.hid (L1.out.keep h); have M2 := Lib.hid (M1.out.keep h)
        clear h x0 x1 y0 y1 L1 M1
        obtain ⟨x0, x1, -⟩ := L2.out.two
        obtain ⟨y0, y1, -⟩ := M2.out.two
        go_wp2_with fail
        go_ret2
        exact ⟨by rw [F1.out, F2.out]; rfl, by assumption⟩
      · obtain ⟨⟨p0, p1⟩, ⟨p2, p3⟩, p4, p5⟩ := mg_bd h1 h2 h3
        have F1 := Lib.hid (show mgE a b c d = 0 by unfold mgE; rw [if_neg (by omega), if_neg (by omega), if_neg h3])
        have F2 := Lib.hid (show mgV a b c d = dn (1000 * c * b) (d * a) by unfold mgV; rw [if_pos F1.out])
        rw [h1] at C1; rw [h2] at C2
        have hz : (a == 0) = false := by simpa using h3
        have CD := Lib.hid (fun u => Floor_any (1000 * c * b) (d * a) u (by omega) (by omega) p4 (by omega))
        clear h1 h2 h3
        go_enter Try.func39, Try.ntmps39
        go_wp2_with fail
        refine (C1.out _).mono ?_
        rintro e w1 ⟨rfl, h⟩
        have B1 : Below w.heap.size w w1 := below_via (by (repeat' (first | (with_reducible exact Below.refl _ _) | (with_reducible assumption) | (with_reducible refine Below.drew ?_) | (with_reducible refine below_drewN ?_ _) | (with_reducible refine Below.setCell ?_ ?_ _) | (with_reducible refine Below.alloc ?_ ?_ _) | go_size | omega))) h
        have z1 := h.size
        simp at z1
        have L1 := Lib.hid (((Box.new w #[.int .i64 a, .int .i64 b] 63 rfl).alloc (.cells #[.int .i64 c, .int .i64 d] 63)).keep h); have M1 := Lib.hid ((Box.new (w.alloc (.cells #[.int .i64 a, .int .i64 b] 63)) #[.int .i64 c, .int .i64 d] 63 (n := w.heap.size + 1) (by simp)).keep h)
        clear h
        obtain ⟨x0, x1, -⟩ := L1.out.two
        obtain ⟨y0, y1, -⟩ := M1.out.two
        go_wp2_with fail
        refine (C2.out _).mono ?_
        rintro e w2 ⟨rfl, h⟩
        have B2 : Below w.heap.size w w2 := below_via (by (repeat' (first | (with_reducible exact Below.refl _ _) | (with_reducible assumption) | (with_reducible refine Below.drew ?_) | (with_reducible refine below_drewN ?_ _) | (with_reducible refine Below.setCell ?_ ?_ _) | (with_reducible refine Below.alloc ?_ ?_ _) | go_size | omega))) h
        have L2 := Lib.hid (L1.out.keep h); have M2 := Lib.hid (M1.out.keep h)
        clear h x0 x1 y0 y1 L1 M1
        obtain ⟨x0, x1, -⟩ := L2.out.two
        obtain ⟨y0, y1, -⟩ := M2.out.two
        go_wp2_with fail
        refine (CD.out _).mono ?_
        rintro e w3 ⟨rfl, rfl⟩
        go_wp2_with fail
        go_ret2
        exact ⟨by rw [F1.out, F2.out]; rfl, by assumption⟩
    · have F1 := Lib.hid (show mgE a b c d = mErr c d by unfold mgE; rw [if_neg (by omega), if_pos h2])
      have F2 := Lib.hid (show mgV a b c d = 0 by unfold mgV; rw [if_neg (by rw [F1.out]; exact h2)])
      have hne : (mErr c d != 0) = true := by simpa using h2
      rw [h1] at C1
      clear h1 h2
      generalize mErr c d = E at *
      go_enter Try.func39, Try.ntmps39
      go_wp2_with fail
      refine (C1.out _).mono ?_
      rintro e w1 ⟨rfl, h⟩
      have B1 : Below w.heap.size w w1 := below_via (by (repeat' (first | (with_reducible exact Below.refl _ _) | (with_reducible assumption) | (with_reducible refine Below.drew ?_) | (with_reducible refine below_drewN ?_ _) | (with_reducible refine Below.setCell ?_ ?_ _) | (with_reducible refine Below.alloc ?_ ?_ _) | go_size | omega))) h
      have z1 := h.size
      simp at z1
      have L1 := Lib.hid (((Box.new w #[.int .i64 a, .int .i64 b] 63 rfl).alloc (.cells #[.int .i64 c, .int .i64 d] 63)).keep h); have M1 := Lib.hid ((Box.new (w.alloc (.cells #[.int .i64 a, .int .i64 b] 63)) #[.int .i64 c, .int .i64 d] 63 (n := w.heap.size + 1) (by simp)).keep h)
      clear h
      obtain ⟨x0, x1, -⟩ := L1.out.two
      obtain ⟨y0, y1, -⟩ := M1.out.two
      go_wp2_with fail
      refine (C2.out _).mono ?_
      rintro e w2 ⟨rfl, h⟩
      have B2 : Below w.heap.size w w2 := below_via (by (repeat' (first | (with_reducible exact Below.refl _ _) | (with_reducible assumption) | (with_reducible refine Below.drew ?_) | (with_reducible refine below_drewN ?_ _) | (with_reducible refine Below.setCell ?_ ?_ _) | (with_reducible refine Below.alloc ?_ ?_ _) | go_size | omega))) h
      have L2 := Lib.hid (L1.out.keep h); have M2 := Lib.hid (M1.out.keep h)
      clear h x0 x1 y0 y1 L1 M1
      obtain ⟨x0, x1, -⟩ := L2.out.two
      obtain ⟨y0, y1, -⟩ := M2.out.two
      go_wp2_with fail
      go_ret2
      exact ⟨by rw [F1.out, F2.out]; rfl, by assumption⟩
  · have F1 := Lib.hid (show mgE a b c d = mErr a b by unfold mgE; rw [if_pos h1])
    have F2 := Lib.hid (show mgV a b c d = 0 by unfold mgV; rw [if_neg (by rw [F1.out]; exact h1)])
    have hne : (mErr a b != 0) = true := by simpa using h1
    clear h1
    generalize mErr a b = E at *
    go_enter Try.func39, Try.ntmps39
    go_wp2_with fail
    refine (C1.out _).mono ?_
    rintro e w1 ⟨rfl, h⟩
    have B1 : Below w.heap.size w w1 := below_via (by (repeat' (first | (with_reducible exact Below.refl _ _) | (with_reducible assumption) | (with_reducible refine Below.drew ?_) | (with_reducible refine below_drewN ?_ _) | (with_reducible refine Below.setCell ?_ ?_ _) | (with_reducible refine Below.alloc ?_ ?_ _) | go_size | omega))) h
    have z1 := h.size
    simp at z1
    have L1 := Lib.hid (((Box.new w #[.int .i64 a, .int .i64 b] 63 rfl).alloc (.cells #[.int .i64 c, .int .i64 d] 63)).keep h); have M1 := Lib.hid ((Box.new (w.alloc (.cells #[.int .i64 a, .int .i64 b] 63)) #[.int .i64 c, .int .i64 d] 63 (n := w.heap.size + 1) (by simp)).keep h)
    clear h
    obtain ⟨x0, x1, -⟩ := L1.out.two
    obtain ⟨y0, y1, -⟩ := M1.out.two
    go_wp2_with fail
    go_ret2
    exact ⟨by rw [F1.out, F2.out]; rfl, by assumption⟩
set_option maxRecDepth 100000 in
set_option maxHeartbeats 1600000 in
theorem lawMargins (a b c d : Int) (w : World) (a0 : -9223372036854775808 ≤ a) (a1 : a ≤ 9223372036854775807) (b0 : -9223372036854775808 ≤ b) (b1 : b ≤ 9223372036854775807) (c0 : -9223372036854775808 ≤ c) (c1 : c ≤ 9223372036854775807) (d0 : -9223372036854775808 ≤ d) (d1 : d ≤ 9223372036854775807) :
    Calls Try.prog 10 #[.agg #[.int .i64 a, .int .i64 b], .agg #[.int .i64 c, .int .i64 d]] w fun e w' => e = .returned (.bool true) ∧ Below w.heap.size w w' := by
  have C1 := Lib.hid (fun u => margin_any a b c d u a0 a1 b0 b1 c0 c1 d0 d1)
  have C2 := Lib.hid (fun u => rmargin_any a b c d u a0 a1 b0 b1 c0 c1 d0 d1)
  generalize mgV a b c d = V at *
  generalize mgE a b c d = E at *
  go_enter Try.func10, Try.ntmps10
  go_wp2_with fail
  refine (awake3_any _).mono ?_
  rintro e w1 ⟨rfl, h⟩
  have B1 : Below w.heap.size w w1 := below_via (by (repeat' (first | (with_reducible exact Below.refl _ _) | (with_reducible assumption) | (with_reducible refine Below.drew ?_) | (with_reducible refine below_drewN ?_ _) | (with_reducible refine Below.setCell ?_ ?_ _) | (with_reducible refine Below.alloc ?_ ?_ _) | go_size | omega))) h
  have L1 := Lib.hid (((Box.new w #[.int .i64 a, .int .i64 b] 63 rfl).alloc (.cells #[.int .i64 c, .int .i64 d] 63)).keep h)
  have M1 := Lib.hid ((Box.new (w.alloc (.cells #[.int .i64 a, .int .i64 b] 63)) #[.int .i64 c, .int .i64 d] 63 (n := w.heap.size + 1) (by simp)).keep h)
  clear h
  obtain ⟨x0, x1, -⟩ := L1.out.two
  obtain ⟨y0, y1, -⟩ := M1.out.two
  go_wp2_with fail
  refine (C1.out _).mono ?_
  rintro e w2 ⟨rfl, h⟩
  have B2 : Below w.heap.size w w2 := below_via B1 h
  have L2 := Lib.hid (L1.out.keep h); have M2 := Lib.hid (M1.out.keep h)
  clear h x0 x1 y0 y1 L1 M1
  obtain ⟨x0, x1, -⟩ := L2.out.two
  obtain ⟨y0, y1, -⟩ := M2.out.two
  go_wp2_with fail
  refine (C2.out _).mono ?_
  rintro e w3 ⟨rfl, h⟩
  have B3 : Below w.heap.size w w3 := below_via B2 h
  clear h
  go_wp2_with fail
  go_ret
  exact ⟨ret_bool (by simp), by assumption⟩
theorem lawMarginsA (a b c d : Int) (w : World) (ha : -9223372036854775808 ≤ a ∧ a ≤ 9223372036854775807) (hb : -9223372036854775808 ≤ b ∧ b ≤ 9223372036854775807) (hc : -9223372036854775808 ≤ c ∧ c ≤ 9223372036854775807) (hd : -9223372036854775808 ≤ d ∧ d ≤ 9223372036854775807) :
    Calls Try.prog 10 #[.agg #[.int .i64 a, .int .i64 b], .agg #[.int .i64 c, .int .i64 d]] w fun e w' => e = .returned (.bool true) ∧ Below w.heap.size w w' :=
  lawMargins a b c d w ha.1 ha.2 hb.1 hb.2 hc.1 hc.2 hd.1 hd.2
end Go.Proofs.Ytgmiimpimoipcaa
