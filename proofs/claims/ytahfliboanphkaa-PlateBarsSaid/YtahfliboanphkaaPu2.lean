/-
  The pulls of strings: the length of a way, a component of a pull.
-/
import Derived.Test.YtahfliboanphkaaPul
namespace Go.Proofs.Ytahfliboanphkaa
open Go.RowKit
theorem rooV_sq {s : Int} (h0 : 0 ≤ s) (h1 : s ≤ 1000000000000000000) : 0 ≤ rooV s 2 ∧ rooV s 2 ≤ 1000000000 ∧ rooV s 2 * rooV s 2 ≤ s ∧ (10000 ≤ s → 100 ≤ rooV s 2) := by
  have e : rooE s 2 = 0 := by unfold rooE; rw [if_pos (by omega)]
  have hv : rooV s 2 = half (fitsI 2 s.toNat) 0 s := by unfold rooV; rw [if_pos e]; rfl
  have hm : ∀ a b : Int, 0 < a → a ≤ b → b ≤ s → fitsI 2 s.toNat b = true → fitsI 2 s.toNat a = true := by
    intro a b a0 ab bs hb
    unfold fitsI fitsP at *
    simp only [decide_eq_true_eq] at *
    exact Nat.le_trans (Nat.pow_le_pow_left (by omega) 2) hb
  obtain ⟨h2, h3⟩ := half_spec (fitsI 2 s.toNat) 0 s h0 hm
  obtain ⟨b0, b1⟩ := half_bd (fitsI 2 s.toNat) 0 s h0
  rw [hv]
  generalize half (fitsI 2 s.toNat) 0 s = r at *
  obtain ⟨R, rfl⟩ := Int.eq_ofNat_of_zero_le b0
  obtain ⟨S, rfl⟩ := Int.eq_ofNat_of_zero_le h0
  have hsq : (R : Int) * R ≤ (S : Int) := by
    rcases h2 with h2 | h2
    · rw [h2]; simp
    · unfold fitsI fitsP at h2
      simp only [decide_eq_true_eq, Int.toNat_natCast] at h2
      rw [Nat.pow_two] at h2
      exact_mod_cast h2
  refine ⟨b0, ?_, hsq, fun hs => ?_⟩
  · rcases Int.lt_or_le 1000000000 (R : Int) with h | h
    · exfalso
      have : (1000000001 : Int) * 1000000001 ≤ R * R := Int.mul_le_mul (by omega) (by omega) (by omega) (by omega)
      omega
    · exact h
  · rcases Int.lt_or_le (R : Int) 100 with h | h
    · have := h3 100 h (by omega)
      unfold fitsI fitsP at this
      simp at this
      omega
    · exact h
def sqV (a b c : Int) : Int := 10000 * (a * a + b * b + c * c)
def lenL (a b c : Int) : Int := rooV (sqV a b c) 2
def lenH (a b c : Int) : Int := if lenL a b c * lenL a b c < sqV a b c then lenL a b c + 1 else lenL a b c
theorem sq_bd {a : Int} (h0 : -1000000 ≤ a) (h1 : a ≤ 1000000) : 0 ≤ a * a ∧ a * a ≤ 1000000000000 := by
  rcases Int.le_total 0 a with h | h
  · exact ⟨Int.mul_nonneg h h, by have := Int.mul_le_mul h1 h1 h (by omega); omega⟩
  · have e : a * a = (-a) * (-a) := by rw [Int.neg_mul_neg]
    rw [e]
    exact ⟨Int.mul_nonneg (by omega) (by omega), by have := Int.mul_le_mul (show -a ≤ 1000000 by omega) (show -a ≤ 1000000 by omega) (by omega) (by omega); omega⟩
theorem sq_pos {a : Int} (h : a ≠ 0) : 1 ≤ a * a := by
  rcases Int.lt_or_gt_of_ne h with h | h
  · have := Int.mul_le_mul (show 1 ≤ -a by omega) (show 1 ≤ -a by omega) (by omega) (by omega)
    rw [Int.neg_mul_neg] at this; omega
  · have := Int.mul_le_mul (show 1 ≤ a by omega) (show 1 ≤ a by omega) (by omega) (by omega); omega
theorem sqV_bd {a b c : Int} (h : Big 1000000 a b c) : 0 ≤ sqV a b c ∧ sqV a b c ≤ 30000000000000000 ∧ (¬ (a = 0 ∧ b = 0 ∧ c = 0) → 10000 ≤ sqV a b c) := by
  obtain ⟨⟨a0, a1⟩, ⟨b0, b1⟩, c0, c1⟩ := h
  have x := sq_bd a0 a1; have y := sq_bd b0 b1; have z := sq_bd c0 c1
  unfold sqV
  refine ⟨by omega, by omega, fun hn => ?_⟩
  by_cases ha : a = 0
  · by_cases hb : b = 0
    · have := sq_pos (show c ≠ 0 by omega); omega
    · have := sq_pos hb; omega
  · have := sq_pos ha; omega
set_option maxRecDepth 100000 in
set_option maxHeartbeats 1600000 in
theorem lengthOf_any (a b c : Int) (w : World) (h : Big 1000000 a b c) :
    Calls Try.prog 75 #[vec a b c] w fun e w' => e = .returned (.agg #[.int .i64 (lenL a b c), .int .i64 (lenH a b c)]) ∧ Below w.heap.size w w' := by
  obtain ⟨s0, s1, -⟩ := sqV_bd h
  obtain ⟨r0, r1, r2, -⟩ := rooV_sq (s := sqV a b c) s0 (by omega)
  have hE : rooE (sqV a b c) 2 = 0 := by unfold rooE; rw [if_pos (by omega)]
  have RA := fun u => root_any (sqV a b c) 2 u
  rw [hE] at RA
  have HRA := Lib.hid RA
  have HL := Lib.hid (show lenL a b c = rooV (sqV a b c) 2 from rfl)
  have HH := Lib.hid (show lenH a b c = if rooV (sqV a b c) 2 * rooV (sqV a b c) 2 < sqV a b c then rooV (sqV a b c) 2 + 1 else rooV (sqV a b c) 2 from rfl)
  have HS := Lib.hid (show 10000 * (a * a + b * b + c * c) = sqV a b c from rfl)
  obtain ⟨⟨a0, a1⟩, ⟨b0, b1⟩, c0, c1⟩ := h
  have x := sq_bd a0 a1; have y := sq_bd b0 b1; have z := sq_bd c0 c1
  obtain ⟨x0, x1⟩ := x; obtain ⟨y0, y1⟩ := y; obtain ⟨z0, z1⟩ := z
  clear hE RA
  by_cases hlt : rooV (sqV a b c) 2 * rooV (sqV a b c) 2 < sqV a b c
  · have HLT := Lib.hid hlt
    go_enter Try.func75, Try.ntmps75
    go_wp2_with fail
    rw [HS.out]
    refine (HRA.out _).mono ?_
    rintro e w1 ⟨rfl, h1⟩
    have B1 : Below w.heap.size w w1 := below_via (by go_grown) h1
    have R1 := Lib.hid (((Box.new (w.alloc (.cells #[.int .i64 a, .int .i64 b, .int .i64 c] 91)) #[.int .i64 0, .int .i64 0] 83 (n := w.heap.size + 1) (by simp))).keep h1)
    have z1' := h1.size
    simp at z1'
    clear h1
    generalize rooV (sqV a b c) 2 = r at *
    generalize sqV a b c = s at *
    obtain ⟨q0, q1, f0, f1⟩ := R1.out.two
    have lr := R1.out.lt
    have rr0 : 0 ≤ r * r := Int.mul_nonneg r0 r0
    go_wp2_with fail
    clear q0 q1 f0 f1
    have RV : Box (((w1.setCell ⟨w.heap.size + 1, 0, none⟩ (.int .i64 r)).setCell ⟨w.heap.size + 1, 1, none⟩ (.int .i64 (r + 1))).alloc (.cells #[.int .i64 r, .int .i64 (r + 1)] 83)) (w.heap.size + 1) #[.int .i64 r, .int .i64 (r + 1)] 83 := (((R1.out.set 0 _).set 1 _).alloc _)
    have BV : Below w.heap.size w (((w1.setCell ⟨w.heap.size + 1, 0, none⟩ (.int .i64 r)).setCell ⟨w.heap.size + 1, 1, none⟩ (.int .i64 (r + 1))).alloc (.cells #[.int .i64 r, .int .i64 (r + 1)] 83)) := by (repeat' (first | (with_reducible exact Below.refl _ _) | (with_reducible assumption) | (with_reducible refine Below.drew ?_) | (with_reducible refine below_drewN ?_ _) | (with_reducible refine Below.setCell ?_ ?_ _) | (with_reducible refine Below.alloc ?_ ?_ _) | go_size | omega))
    generalize (((w1.setCell ⟨w.heap.size + 1, 0, none⟩ (.int .i64 r)).setCell ⟨w.heap.size + 1, 1, none⟩ (.int .i64 (r + 1))).alloc (.cells #[.int .i64 r, .int .i64 (r + 1)] 83)) = v at *
    have s0 := RV.cell 0
    have s1 := RV.cell 1
    simp at s0 s1
    go_wp2_with fail
    refine bodyPost_ret (v := .agg #[.int .i64 (lenL a b c), .int .i64 (lenH a b c)]) (by simp [results, Try.results75, go_sem, s0, s1, HL.out, HH.out, HLT.out]) rfl ⟨rfl, BV⟩
  · have HLT := Lib.hid hlt
    go_enter Try.func75, Try.ntmps75
    go_wp2_with fail
    rw [HS.out]
    refine (HRA.out _).mono ?_
    rintro e w1 ⟨rfl, h1⟩
    have B1 : Below w.heap.size w w1 := below_via (by go_grown) h1
    have R1 := Lib.hid (((Box.new (w.alloc (.cells #[.int .i64 a, .int .i64 b, .int .i64 c] 91)) #[.int .i64 0, .int .i64 0] 83 (n := w.heap.size + 1) (by simp))).keep h1)
    have z1' := h1.size
    simp at z1'
    clear h1
    generalize rooV (sqV a b c) 2 = r at *
    generalize sqV a b c = s at *
    obtain ⟨q0, q1, f0, f1⟩ := R1.out.two
    have lr := R1.out.lt
    have rr0 : 0 ≤ r * r := Int.mul_nonneg r0 r0
    go_wp2_with fail
    clear q0 q1 f0 f1
    have RV : Box (((w1.setCell ⟨w.heap.size + 1, 0, none⟩ (.int .i64 r)).setCell ⟨w.heap.size + 1, 1, none⟩ (.int .i64 r)).alloc (.cells #[.int .i64 r, .int .i64 r] 83)) (w.heap.size + 1) #[.int .i64 r, .int .i64 r] 83 := (((R1.out.set 0 _).set 1 _).alloc _)
    have BV : Below w.heap.size w (((w1.setCell ⟨w.heap.size + 1, 0, none⟩ (.int .i64 r)).setCell ⟨w.heap.size + 1, 1, none⟩ (.int .i64 r)).alloc (.cells #[.int .i64 r, .int .i64 r] 83)) := by (repeat' (first | (with_reducible exact Below.refl _ _) | (with_reducible assumption) | (with_reducible refine Below.drew ?_) | (with_reducible refine below_drewN ?_ _) | (with_reducible refine Below.setCell ?_ ?_ _) | (with_reducible refine Below.alloc ?_ ?_ _) | go_size | omega))
    generalize (((w1.setCell ⟨w.heap.size + 1, 0, none⟩ (.int .i64 r)).setCell ⟨w.heap.size + 1, 1, none⟩ (.int .i64 r)).alloc (.cells #[.int .i64 r, .int .i64 r] 83)) = v at *
    have s0 := RV.cell 0
    have s1 := RV.cell 1
    simp at s0 s1
    go_wp2_with fail
    refine bodyPost_ret (v := .agg #[.int .i64 (lenL a b c), .int .i64 (lenH a b c)]) (by simp [results, Try.results75, go_sem, s0, s1, HL.out, HH.out, Int.not_lt.2 HLT.out]) rfl ⟨rfl, BV⟩
def cmpL (tl th d slo shi : Int) : Int := if d < 0 then -(up (th * (100 * (-d))) slo) else dn (tl * (100 * d)) shi
def cmpH (tl th d slo shi : Int) : Int := if d < 0 then -(dn (tl * (100 * (-d))) shi) else up (th * (100 * d)) slo
theorem prod_bd {t d : Int} (t0 : 0 ≤ t) (t1 : t ≤ 10000000000) (d0 : 0 ≤ d) (d1 : d ≤ 1000000) : 0 ≤ t * (100 * d) ∧ t * (100 * d) ≤ 1000000000000000000 := by
  refine ⟨Int.mul_nonneg t0 (by omega), ?_⟩
  have := Int.mul_le_mul t1 (show 100 * d ≤ 100000000 by omega) (by omega) (by omega)
  omega
set_option maxRecDepth 100000 in
set_option maxHeartbeats 1600000 in
theorem component_pos (tl th d slo shi : Int) (w : World) (t0 : 0 ≤ tl) (t1 : tl ≤ 10000000000) (u0 : 0 ≤ th) (u1 : th ≤ 10000000000) (d0 : 0 ≤ d) (d1 : d ≤ 1000000) (s0 : 1 ≤ slo) (s1 : slo ≤ 1000000000000) (q0 : 1 ≤ shi) (q1 : shi ≤ 1000000000000) :
    Calls Try.prog 76 #[.agg #[.int .i64 tl, .int .i64 th], .int .i64 d, .agg #[.int .i64 slo, .int .i64 shi]] w fun e w' => e = .returned (.agg #[.int .i64 (dn (tl * (100 * d)) shi), .int .i64 (up (th * (100 * d)) slo)]) ∧ Below w.heap.size w w' := by
  obtain ⟨m0, m1⟩ := prod_bd t0 t1 d0 d1
  obtain ⟨n0, n1⟩ := prod_bd u0 u1 d0 d1
  go_enter Try.func76, Try.ntmps76
  go_wp2_with fail
  have wm : IntKind.i64.wrap (tl * (100 * d)) = tl * (100 * d) := IntWalk.i64_in _ (by omega)
  have wn : IntKind.i64.wrap (th * (100 * d)) = th * (100 * d) := IntWalk.i64_in _ (by omega)
  have BX0 := (((Box.new w #[.int .i64 tl, .int .i64 th] 83 (n := w.heap.size) (by simp)).alloc (.cells #[.int .i64 slo, .int .i64 shi] 83)).alloc (.cells #[.int .i64 0, .int .i64 0] 83))
  have BX1 := ((Box.new (w.alloc (.cells #[.int .i64 tl, .int .i64 th] 83)) #[.int .i64 slo, .int .i64 shi] 83 (n := w.heap.size + 1) (by simp)).alloc (.cells #[.int .i64 0, .int .i64 0] 83))
  have BX2 := (Box.new ((w.alloc (.cells #[.int .i64 tl, .int .i64 th] 83)).alloc (.cells #[.int .i64 slo, .int .i64 shi] 83)) #[.int .i64 0, .int .i64 0] 83 (n := w.heap.size + 1 + 1) (by simp))
  have BW : Below w.heap.size w (((w.alloc (.cells #[.int .i64 tl, .int .i64 th] 83)).alloc (.cells #[.int .i64 slo, .int .i64 shi] 83)).alloc (.cells #[.int .i64 0, .int .i64 0] 83)) := by go_grown
  generalize (((w.alloc (.cells #[.int .i64 tl, .int .i64 th] 83)).alloc (.cells #[.int .i64 slo, .int .i64 shi] 83)).alloc (.cells #[.int .i64 0, .int .i64 0] 83)) = u at *
  have l0 := BX0.lt
  have HX0 := Lib.hid BX0
  clear BX0
  have l1 := BX1.lt
  have HX1 := Lib.hid BX1
  clear BX1
  have l2 := BX2.lt
  have HX2 := Lib.hid BX2
  clear BX2
  have CD := Lib.hid (fun v => dn_any (tl * (100 * d)) shi v (by omega) (by omega) (by omega) (by omega))
  have CU := Lib.hid (fun v => up_any (th * (100 * d)) slo v (by omega) (by omega) (by omega) (by omega))
  obtain ⟨r0, r1, f0, f1⟩ := HX2.out.two
  have K := Lib.hid (fun (w' : World) (hw : Below (w.heap.size + 2) u w') => show (w'.cell? ⟨w.heap.size, 0, none⟩ = some (.int .i64 tl) ∧ w'.cell? ⟨w.heap.size, 1, none⟩ = some (.int .i64 th)) ∧ (w'.cell? ⟨w.heap.size + 1, 0, none⟩ = some (.int .i64 slo) ∧ w'.cell? ⟨w.heap.size + 1, 1, none⟩ = some (.int .i64 shi)) from ⟨⟨(Box.keepB (by omega) (HX0.out) hw).cell 0, (Box.keepB (by omega) (HX0.out) hw).cell 1⟩, ⟨(Box.keepB (by omega) (HX1.out) hw).cell 0, (Box.keepB (by omega) (HX1.out) hw).cell 1⟩⟩)
  go_region_held3 (fun w' => (w'.cell? ⟨w.heap.size, 0, none⟩ = some (.int .i64 tl) ∧ w'.cell? ⟨w.heap.size, 1, none⟩ = some (.int .i64 th)) ∧ (w'.cell? ⟨w.heap.size + 1, 0, none⟩ = some (.int .i64 slo) ∧ w'.cell? ⟨w.heap.size + 1, 1, none⟩ = some (.int .i64 shi)))
    ((refine K.out _ ?_; (repeat' (first | (with_reducible exact Below.refl _ _) | (with_reducible assumption) | (with_reducible refine Below.drew ?_) | (with_reducible refine below_drewN ?_ _) | (with_reducible refine Below.setCell ?_ ?_ _) | (with_reducible refine Below.alloc ?_ ?_ _) | go_size | omega)); done))
    (first | (go_at_call 95; refine (CD.out _).mono ?_; rintro e w8 ⟨rfl, rfl⟩) | (go_at_call 96; refine (CU.out _).mono ?_; rintro e w9 ⟨rfl, rfl⟩))
  all_goals
    have RV : Box (((u.setCell ⟨w.heap.size + 1 + 1, 0, none⟩ (.int .i64 ((dn (tl * (100 * d)) shi)))).setCell ⟨w.heap.size + 1 + 1, 1, none⟩ (.int .i64 ((up (th * (100 * d)) slo)))).drew) (w.heap.size + 1 + 1) #[.int .i64 ((dn (tl * (100 * d)) shi)), .int .i64 ((up (th * (100 * d)) slo))] 83 := (((HX2.out.set 0 _).set 1 _).drew)
    have BL : Below w.heap.size w u := BW
    have BV : Below w.heap.size w (((u.setCell ⟨w.heap.size + 1 + 1, 0, none⟩ (.int .i64 ((dn (tl * (100 * d)) shi)))).setCell ⟨w.heap.size + 1 + 1, 1, none⟩ (.int .i64 ((up (th * (100 * d)) slo)))).drew) := by (repeat' (first | (with_reducible exact Below.refl _ _) | (with_reducible assumption) | (with_reducible refine Below.drew ?_) | (with_reducible refine below_drewN ?_ _) | (with_reducible refine Below.setCell ?_ ?_ _) | (with_reducible refine Below.alloc ?_ ?_ _) | go_size | omega))
    generalize (((u.setCell ⟨w.heap.size + 1 + 1, 0, none⟩ (.int .i64 ((dn (tl * (100 * d)) shi)))).setCell ⟨w.heap.size + 1 + 1, 1, none⟩ (.int .i64 ((up (th * (100 * d)) slo)))).drew) = v at *
    have s0 := RV.cell 0
    have s1 := RV.cell 1
    simp at s0 s1
    go_wp2_with fail
    refine bodyPost_ret (v := .agg #[.int .i64 (dn (tl * (100 * d)) shi), .int .i64 (up (th * (100 * d)) slo)]) (by simp [results, Try.results76, go_sem, s0, s1]) rfl ⟨rfl, BV⟩
end Go.Proofs.Ytahfliboanphkaa
