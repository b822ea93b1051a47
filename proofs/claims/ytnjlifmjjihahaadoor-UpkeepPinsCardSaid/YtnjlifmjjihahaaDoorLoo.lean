/-
  The day on which a pin is loose: looseOn, LooseOn. No condition but the length.
-/
import Derived.Test.YtnjlifmjjihahaaDoorTor
import Derived.Deep.CutBlock
namespace Go.Proofs.YtnjlifmjjihahaaDoor
open Go Go.RowKit
theorem up_gen {n d : Int} (hd : 0 < d) : n ≤ d * up n d ∧ d * up n d < n + d := by
  have h1 := Int.mul_ediv_self_le (x := -n) (k := d) (by omega)
  have h2 := Int.lt_mul_ediv_self_add (x := -n) (k := d) hd
  have e : d * up n d = -(d * (-n / d)) := by unfold up dn; rw [Int.mul_neg]
  omega
/-- a day behind the greatest one if the line never comes to the least force -/
def lsN (a F b G m : Int) : Int := if G ≤ m then b else if F - G ≤ 0 then 100001 else a + up ((F - m) * (b - a)) (F - G)
theorem lsN_ge {a F b G m : Int} (hab : a < b) (hb : b ≤ 100000) : b ≤ lsN a F b G m := by
  unfold lsN
  by_cases h1 : G ≤ m
  · rw [if_pos h1]; omega
  · rw [if_neg h1]
    by_cases h2 : F - G ≤ 0
    · rw [if_pos h2]; omega
    · rw [if_neg h2]
      obtain ⟨u1, u2⟩ := up_gen (n := (F - m) * (b - a)) (d := F - G) (by omega)
      generalize up ((F - m) * (b - a)) (F - G) = U at *
      rcases Int.lt_or_le U (b - a) with h | h
      · exfalso
        have h3 : (F - G) * U ≤ (F - G) * (b - a) := Int.mul_le_mul_of_nonneg_left (by omega) (by omega)
        have h4 : m * (b - a) < G * (b - a) := Int.mul_lt_mul_of_pos_right (by omega) (by omega)
        rw [Int.sub_mul F m (b - a)] at u1
        rw [Int.sub_mul F G (b - a)] at h3
        omega
      · omega
theorem loose_iff {a F b G m k : Int} (hab : a < b) (hb : b ≤ k) (hk : k ≤ lsN a F b G m) (hk1 : k ≤ 100000) : F * (b - a) + (G - F) * (k - a) ≤ m * (b - a) ↔ lsN a F b G m ≤ k := by
  unfold lsN at *
  by_cases h1 : G ≤ m
  · rw [if_pos h1] at hk ⊢
    obtain rfl : k = b := by omega
    have h4 : G * (k - a) ≤ m * (k - a) := Int.mul_le_mul_of_nonneg_right h1 (by omega)
    rw [Int.sub_mul]
    omega
  · rw [if_neg h1] at hk ⊢
    have h4 : m * (b - a) < G * (b - a) := Int.mul_lt_mul_of_pos_right (by omega) (by omega)
    by_cases h2 : F - G ≤ 0
    · rw [if_pos h2]
      have h5 : (G - F) * (b - a) ≤ (G - F) * (k - a) := Int.mul_le_mul_of_nonneg_left (by omega) (by omega)
      rw [Int.sub_mul G F (b - a)] at h5
      omega
    · rw [if_neg h2]
      obtain ⟨u1, u2⟩ := up_gen (n := (F - m) * (b - a)) (d := F - G) (by omega)
      generalize up ((F - m) * (b - a)) (F - G) = U at *
      rw [Int.sub_mul F m (b - a)] at u1 u2
      have e1 : (G - F) * (k - a) = -((F - G) * (k - a)) := by rw [← Int.neg_mul]; congr 1; omega
      rw [e1]
      constructor
      · intro h
        rcases Int.lt_or_le (k - a) U with h3 | h3
        · exfalso
          have h6 : (F - G) * (k - a + 1) ≤ (F - G) * U := Int.mul_le_mul_of_nonneg_left (by omega) (by omega)
          rw [Int.mul_add, Int.mul_one] at h6
          omega
        · omega
      · intro h
        have h6 : (F - G) * U ≤ (F - G) * (k - a) := Int.mul_le_mul_of_nonneg_left (by omega) (by omega)
        omega
set_option maxRecDepth 100000 in
set_option maxHeartbeats 1600000 in
theorem looseOn_any (a F b G m : Int) (w : World) (hF : 0 ≤ F ∧ F ≤ 100000) (hG : 0 ≤ G ∧ G ≤ 100000) (hm : 0 ≤ m ∧ m ≤ 100000) (ha : 0 ≤ a) (hab : a < b) (hb : b ≤ 100000) :
    Calls Tryd.prog 79 #[.agg #[.int .i64 a, .int .i64 F], .agg #[.int .i64 b, .int .i64 G], .int .i64 m] w fun e w' => e = .returned (.int .i64 (lsN a F b G m)) ∧ Below w.heap.size w w' := by
  have D0 := Lib.hid ((Box.new w #[.int .i64 a, .int .i64 F] 114 (n := w.heap.size) rfl).alloc (.cells #[.int .i64 b, .int .i64 G] 114))
  have D1 := Lib.hid (Box.new (w.alloc (.cells #[.int .i64 a, .int .i64 F] 114)) #[.int .i64 b, .int .i64 G] 114 (n := w.heap.size + 1) (by simp))
  have BU : Below w.heap.size w ((w.alloc (.cells #[.int .i64 a, .int .i64 F] 114)).alloc (.cells #[.int .i64 b, .int .i64 G] 114)) := by (repeat' (first | (with_reducible exact Below.refl _ _) | (with_reducible assumption) | (with_reducible refine Below.drew ?_) | (with_reducible refine below_drewN ?_ _) | (with_reducible refine Below.setCell ?_ ?_ _) | (with_reducible refine Below.alloc ?_ ?_ _) | go_size | omega))
  have HV := Lib.hid (show lsN a F b G m = if G ≤ m then b else if F - G ≤ 0 then 100001 else a + up ((F - m) * (b - a)) (F - G) from rfl)
  by_cases h1 : G ≤ m
  · have HV1 := Lib.hid (show lsN a F b G m = b by rw [HV.out, if_pos h1])
    go_enter Tryd.func79, Tryd.ntmps79
    go_upto_region 1 with fail
    generalize ((w.alloc (.cells #[.int .i64 a, .int .i64 F] 114)).alloc (.cells #[.int .i64 b, .int .i64 G] 114)) = u at *
    obtain ⟨x0, x1, -⟩ := D0.out.two; obtain ⟨y0, y1, -⟩ := D1.out.two
    go_wp2_with fail
    go_ret
    exact ⟨ret_int (by rw [HV1.out]), BU⟩
  · have w1 : IntKind.i64.wrap (F - G) = F - G := IntWalk.i64_in _ (by omega)
    by_cases h2 : F - G ≤ 0
    · have HV1 := Lib.hid (show lsN a F b G m = 100001 by rw [HV.out, if_neg h1, if_pos h2])
      go_enter Tryd.func79, Tryd.ntmps79
      go_upto_region 1 with fail
      generalize ((w.alloc (.cells #[.int .i64 a, .int .i64 F] 114)).alloc (.cells #[.int .i64 b, .int .i64 G] 114)) = u at *
      obtain ⟨x0, x1, -⟩ := D0.out.two; obtain ⟨y0, y1, -⟩ := D1.out.two
      go_wp2_with fail
      go_ret
      exact ⟨ret_int (by rw [HV1.out]), BU⟩
    · have HV1 := Lib.hid (show lsN a F b G m = a + up ((F - m) * (b - a)) (F - G) by rw [HV.out, if_neg h1, if_neg h2])
      have hx : 0 ≤ (F - m) * (b - a) ∧ (F - m) * (b - a) ≤ 100000 * 100000 := ⟨Int.mul_nonneg (by omega) (by omega), Int.mul_le_mul (by omega) (by omega) (by omega) (by omega)⟩
      obtain ⟨q0, q1⟩ := hx
      have hu := up_gen (n := (F - m) * (b - a)) (d := F - G) (by omega)
      have hu2 : 0 ≤ up ((F - m) * (b - a)) (F - G) ∧ up ((F - m) * (b - a)) (F - G) ≤ 100000 * 100000 + 100000 := by
        generalize up ((F - m) * (b - a)) (F - G) = U at *
        generalize (F - m) * (b - a) = X at *
        generalize hL : F - G = L at *
        rcases Int.lt_or_le U 0 with h | h
        · exfalso
          have : L * U ≤ L * (-1) := Int.mul_le_mul_of_nonneg_left (by omega) (by omega)
          omega
        · refine ⟨h, ?_⟩
          have : 1 * U ≤ L * U := Int.mul_le_mul_of_nonneg_right (by omega) h
          omega
      obtain ⟨u0, u1⟩ := hu2
      have CU := Lib.hid (fun v => up_any ((F - m) * (b - a)) (F - G) v (by omega) (by omega) (by omega) (by omega))
      have w2 : IntKind.i64.wrap (F - m) = F - m := IntWalk.i64_in _ (by omega)
      have w3 : IntKind.i64.wrap (b - a) = b - a := IntWalk.i64_in _ (by omega)
      have w4 : IntKind.i64.wrap ((F - m) * (b - a)) = (F - m) * (b - a) := IntWalk.i64_in _ (by omega)
      have w4' : wrap64 ((F - m) * (b - a)) = (F - m) * (b - a) := IntWalk.wrap64_in _ (by omega)
      have w5 : IntKind.i64.wrap (a + up ((F - m) * (b - a)) (F - G)) = a + up ((F - m) * (b - a)) (F - G) := IntWalk.i64_in _ (by omega)
      clear hu
      go_enter Tryd.func79, Tryd.ntmps79
      go_upto_region 1 with fail
      generalize ((w.alloc (.cells #[.int .i64 a, .int .i64 F] 114)).alloc (.cells #[.int .i64 b, .int .i64 G] 114)) = u at *
      obtain ⟨x0, x1, -⟩ := D0.out.two; obtain ⟨y0, y1, -⟩ := D1.out.two
      go_wp2_with fail
      go_quiet ((go_at_call 72; refine (CU.out _).mono ?_; rintro e w9 ⟨rfl, rfl⟩; exact ⟨rfl, _, rfl⟩))
      go_wp2_with fail
      go_ret
      exact ⟨ret_int (by rw [HV1.out]), by (repeat' (first | (with_reducible exact Below.refl _ _) | (with_reducible assumption) | (with_reducible refine Below.drew ?_) | (with_reducible refine below_drewN ?_ _) | (with_reducible refine Below.setCell ?_ ?_ _) | (with_reducible refine Below.alloc ?_ ?_ _) | go_size | omega))⟩
end Go.Proofs.YtnjlifmjjihahaaDoor
