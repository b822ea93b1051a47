/-
  The law PlatePulls: what the parts are.
-/
import Derived.Test.YtgmiimpimoipcaaRp3
import Derived.Test.YtgmiimpimoipcaaAwk3
namespace Go.Proofs.Ytgmiimpimoipcaa
open Go.RowKit
theorem dn_le_up {m n slo shi : Int} (m0 : 0 ≤ m) (mn : m ≤ n) (h0 : 1 ≤ slo) (h1 : slo ≤ shi) : dn m shi ≤ up n slo := by
  have a1 : m / shi * shi ≤ m := Int.ediv_mul_le m (by omega)
  have q0 : 0 ≤ m / shi := Int.ediv_nonneg m0 (by omega)
  have a2 : m / shi * slo ≤ m / shi * shi := Int.mul_le_mul_of_nonneg_left h1 q0
  have a3 : (-n) / slo * slo ≤ -n := Int.ediv_mul_le (-n) (by omega)
  unfold dn up dn
  have a4 : (m / shi + (-n) / slo) * slo ≤ 0 * slo := by rw [Int.add_mul]; omega
  have a5 := Int.le_of_mul_le_mul_right a4 (show 0 < slo by omega)
  omega
theorem cmp_le {tl th d slo shi : Int} (t0 : 0 ≤ tl) (t1 : tl ≤ th) (h0 : 1 ≤ slo) (h1 : slo ≤ shi) : cmpL tl th d slo shi ≤ cmpH tl th d slo shi := by
  unfold cmpL cmpH
  by_cases hd : d < 0
  · rw [if_pos hd, if_pos hd]
    have := dn_le_up (m := tl * (100 * -d)) (n := th * (100 * -d)) (Int.mul_nonneg t0 (by omega)) (Int.mul_le_mul_of_nonneg_right t1 (by omega)) h0 h1
    omega
  · rw [if_neg hd, if_neg hd]
    exact dn_le_up (Int.mul_nonneg t0 (by omega)) (Int.mul_le_mul_of_nonneg_right t1 (by omega)) h0 h1
theorem cmp_neg (tl th d slo shi : Int) : cmpL tl th (-d) slo shi = -(cmpH tl th d slo shi) ∧ cmpH tl th (-d) slo shi = -(cmpL tl th d slo shi) := by
  unfold cmpL cmpH
  by_cases h0 : d = 0
  · subst h0; simp [dn, up]
  · by_cases hd : d < 0
    · rw [if_pos hd, if_neg (show ¬ -d < 0 by omega), if_neg (show ¬ -d < 0 by omega), if_pos hd]; simp
    · rw [if_neg hd, if_pos (show -d < 0 by omega), if_pos (show -d < 0 by omega), if_neg hd]; simp
theorem cmp_bd {tl th d slo shi : Int} (t0 : 0 ≤ tl) (t1 : tl ≤ th) (t2 : th ≤ 10000000000) (d0 : -1000000 ≤ d) (d1 : d ≤ 1000000) (h0 : 1 ≤ slo) (h1 : 1 ≤ shi) :
    (-1000000000000000000 ≤ cmpL tl th d slo shi ∧ cmpL tl th d slo shi ≤ 1000000000000000000) ∧ -1000000000000000000 ≤ cmpH tl th d slo shi ∧ cmpH tl th d slo shi ≤ 1000000000000000000 := by
  unfold cmpL cmpH
  by_cases hd : d < 0
  · rw [if_pos hd, if_pos hd]
    obtain ⟨m0, m1⟩ := prod_bd t0 (show tl ≤ 10000000000 by omega) (show 0 ≤ -d by omega) (show -d ≤ 1000000 by omega)
    obtain ⟨n0, n1⟩ := prod_bd (show 0 ≤ th by omega) t2 (show 0 ≤ -d by omega) (show -d ≤ 1000000 by omega)
    have b0 := dn_bd h1 (show -1000000000000000000 ≤ tl * (100 * (-d)) by omega) m1 (by omega)
    have b1 := up_bd h0 (show -1000000000000000000 ≤ th * (100 * (-d)) by omega) n1 (by omega)
    omega
  · rw [if_neg hd, if_neg hd]
    obtain ⟨m0, m1⟩ := prod_bd t0 (show tl ≤ 10000000000 by omega) (show 0 ≤ d by omega) d1
    obtain ⟨n0, n1⟩ := prod_bd (show 0 ≤ th by omega) t2 (show 0 ≤ d by omega) d1
    have b0 := dn_bd h1 (show -1000000000000000000 ≤ tl * (100 * d) by omega) m1 (by omega)
    have b1 := up_bd h0 (show -1000000000000000000 ≤ th * (100 * d) by omega) n1 (by omega)
    omega
theorem len_neg (x y z : Int) : lenL (-x) (-y) (-z) = lenL x y z ∧ lenH (-x) (-y) (-z) = lenH x y z := by
  have e : sqV (-x) (-y) (-z) = sqV x y z := by unfold sqV; rw [Int.neg_mul_neg, Int.neg_mul_neg, Int.neg_mul_neg]
  unfold lenH lenL
  rw [e]; exact ⟨rfl, rfl⟩
theorem pullE_ok {tl th a0 a1 a2 b0 b1 b2 : Int} (h : pullE tl th a0 a1 a2 b0 b1 b2 = 0) :
    (0 ≤ tl ∧ tl ≤ th ∧ th ≤ 10000000000) ∧ beyV 1000000 a0 a1 a2 = false ∧ beyV 1000000 b0 b1 b2 = false ∧ beyV 1000000 (b0 + -a0) (b1 + -a1) (b2 + -a2) = false ∧ ¬ (a0 = b0 ∧ a1 = b1 ∧ a2 = b2) := by
  unfold pullE at h
  split at h
  · omega
  · rename_i h0
    split at h
    · omega
    · rename_i h1
      split at h
      · omega
      · rename_i h2
        split at h
        · omega
        · rename_i h3
          split at h
          · omega
          · rename_i h4
            exact ⟨Decidable.not_not.1 h0, by simpa using h1, by simpa using h2, by simpa using h3, h4⟩
theorem pullE_turn {tl th a0 a1 a2 b0 b1 b2 : Int} (h : pullE tl th a0 a1 a2 b0 b1 b2 = 0) : pullE tl th b0 b1 b2 a0 a1 a2 = 0 := by
  obtain ⟨h0, h1, h2, h3, h4⟩ := pullE_ok h
  have h3' : beyV 1000000 (a0 + -b0) (a1 + -b1) (a2 + -b2) = false := beyV_of (by have := beyV_no h3; unfold Big at *; omega)
  have h4' : ¬ (b0 = a0 ∧ b1 = a1 ∧ b2 = a2) := by omega
  unfold pullE
  simp only [h0, h1, h2, h3', h4', and_self, not_true, if_false, Bool.false_eq_true]
theorem pull_shape {tl th a0 a1 a2 b0 b1 b2 : Int} (h : pullE tl th a0 a1 a2 b0 b1 b2 = 0) :
    ∃ p0 p1 p2 p3 p4 p5 : Int, pullV tl th a0 a1 a2 b0 b1 b2 = .agg #[.int .i64 p0, .int .i64 p1, .int .i64 p2, .int .i64 p3, .int .i64 p4, .int .i64 p5] ∧
      pullV tl th b0 b1 b2 a0 a1 a2 = .agg #[.int .i64 (-p1), .int .i64 (-p0), .int .i64 (-p3), .int .i64 (-p2), .int .i64 (-p5), .int .i64 (-p4)] ∧
      (p0 ≤ p1 ∧ p2 ≤ p3 ∧ p4 ≤ p5) ∧ (-1000000000000000000 ≤ p0 ∧ p0 ≤ 1000000000000000000) ∧ (-1000000000000000000 ≤ p1 ∧ p1 ≤ 1000000000000000000) ∧ (-1000000000000000000 ≤ p2 ∧ p2 ≤ 1000000000000000000) ∧ (-1000000000000000000 ≤ p3 ∧ p3 ≤ 1000000000000000000) ∧ (-1000000000000000000 ≤ p4 ∧ p4 ≤ 1000000000000000000) ∧ (-1000000000000000000 ≤ p5 ∧ p5 ≤ 1000000000000000000) := by
  have ht := pullE_turn h
  obtain ⟨⟨t0, t1, t2⟩, -, -, h3, h4⟩ := pullE_ok h
  have hb := beyV_no h3
  obtain ⟨ql, qh, qL, qH⟩ := len_bd hb (by omega)
  have hlh : lenL (b0 + -a0) (b1 + -a1) (b2 + -a2) ≤ lenH (b0 + -a0) (b1 + -a1) (b2 + -a2) := by unfold lenH; split <;> omega
  unfold pullV
  rw [if_pos h, if_pos ht]
  have e0 : a0 + -b0 = -(b0 + -a0) := by omega
  have e1 : a1 + -b1 = -(b1 + -a1) := by omega
  have e2 : a2 + -b2 = -(b2 + -a2) := by omega
  rw [e0, e1, e2, (len_neg _ _ _).1, (len_neg _ _ _).2]
  unfold Big at hb
  generalize b0 + -a0 = x at *
  generalize b1 + -a1 = y at *
  generalize b2 + -a2 = z at *
  generalize lenL x y z = L at *
  generalize lenH x y z = H at *
  rw [(cmp_neg tl th x L H).1, (cmp_neg tl th x L H).2, (cmp_neg tl th y L H).1, (cmp_neg tl th y L H).2, (cmp_neg tl th z L H).1, (cmp_neg tl th z L H).2]
  have bx := cmp_bd (d := x) t0 t1 t2 (by omega) (by omega) ql qL
  have bY := cmp_bd (d := y) t0 t1 t2 (by omega) (by omega) ql qL
  have bz := cmp_bd (d := z) t0 t1 t2 (by omega) (by omega) ql qL
  exact ⟨_, _, _, _, _, _, rfl, rfl, ⟨cmp_le t0 t1 ql hlh, cmp_le t0 t1 ql hlh, cmp_le t0 t1 ql hlh⟩, bx.1, bx.2, bY.1, bY.2, bz.1, bz.2⟩
end Go.Proofs.Ytgmiimpimoipcaa
