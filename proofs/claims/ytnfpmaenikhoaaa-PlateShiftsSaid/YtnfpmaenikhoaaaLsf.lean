/-
  The law PlateShifts: the moment about another place.
-/
import Derived.Test.YtnfpmaenikhoaaaLsh
import Derived.Test.YtnfpmaenikhoaaaOpl
namespace Go.Proofs.Ytnfpmaenikhoaaa
open Go.RowKit
theorem shiftX (t1 t2 : Int) (l : List Pf) : ∀ k, sA (mX t1 t2) l k = sA (mX 0 0) l k - (t1 * sA Pf.r l k - t2 * sA Pf.q l k)
  | 0 => by simp [sA]
  | k + 1 => by
    have ih := shiftX t1 t2 l k
    simp only [sA]
    generalize l.getD k ⟨0, 0, 0, 0, 0, 0⟩ = p at *
    rw [ih]
    unfold mX
    simp only [Int.add_mul, Int.mul_add, Int.neg_mul, Int.neg_zero, Int.zero_mul]
    omega
theorem shiftY (t0 t2 : Int) (l : List Pf) : ∀ k, sA (mY t0 t2) l k = sA (mY 0 0) l k - (t2 * sA Pf.p l k - t0 * sA Pf.r l k)
  | 0 => by simp [sA]
  | k + 1 => by
    have ih := shiftY t0 t2 l k
    simp only [sA]
    generalize l.getD k ⟨0, 0, 0, 0, 0, 0⟩ = p at *
    rw [ih]
    unfold mY
    simp only [Int.add_mul, Int.mul_add, Int.neg_mul, Int.neg_zero, Int.zero_mul]
    omega
theorem shiftZ (t0 t1 : Int) (l : List Pf) : ∀ k, sA (mZ t0 t1) l k = sA (mZ 0 0) l k - (t0 * sA Pf.q l k - t1 * sA Pf.p l k)
  | 0 => by simp [sA]
  | k + 1 => by
    have ih := shiftZ t0 t1 l k
    simp only [sA]
    generalize l.getD k ⟨0, 0, 0, 0, 0, 0⟩ = p at *
    rw [ih]
    unfold mZ
    simp only [Int.add_mul, Int.mul_add, Int.neg_mul, Int.neg_zero, Int.zero_mul]
    omega
theorem sum20 {l : List Pf} (h : okL l) (h20 : (l.length : Int) ≤ 20) : Big 30000000000 (sA Pf.p l l.length) (sA Pf.q l l.length) (sA Pf.r l l.length) := by
  have a := sA_bd (g := Pf.p) (l := l) (M := 1000000000) (fun p hp => (badP_no (h.2 p hp)).2.1) (by omega) l.length (Nat.le_refl _)
  have b := sA_bd (g := Pf.q) (l := l) (M := 1000000000) (fun p hp => (badP_no (h.2 p hp)).2.2.1) (by omega) l.length (Nat.le_refl _)
  have c := sA_bd (g := Pf.r) (l := l) (M := 1000000000) (fun p hp => (badP_no (h.2 p hp)).2.2.2) (by omega) l.length (Nat.le_refl _)
  unfold Big; omega
theorem lawShiftsA (l : List Pf) (a : Option Addr) (cap : Nat) (t0 t1 t2 : Int) (w : World) (hp : PlAt w a l) (hl : l.length ≤ 9223372036854775807) (_ : -9223372036854775808 ≤ t0 ∧ t0 ≤ 9223372036854775807) (_ : -9223372036854775808 ≤ t1 ∧ t1 ≤ 9223372036854775807) (_ : -9223372036854775808 ≤ t2 ∧ t2 ≤ 9223372036854775807) :
    Calls Try.prog 4 #[.slice a l.length cap, vec t0 t1 t2] w fun e w' => e = .returned (.bool true) ∧ Below w.heap.size w w' := by
  by_cases h1 : (20 : Int) < l.length
  · exact shift_A l a cap t0 t1 t2 w hl hp h1
  · by_cases h2 : chkP l = 0
    · cases h3 : beyV 1000000 t0 t1 t2
      · exact shift_D l a cap t0 t1 t2 w hl hp (by omega) h2 h3 _ _ _ _ _ _ _ _ _ rfl rfl rfl rfl rfl rfl rfl rfl rfl _ _ _ rfl rfl rfl (shiftX t1 t2 l _).symm (shiftY t0 t2 l _).symm (shiftZ t0 t1 l _).symm (sum20 (okL_of h2) (by omega)) (mom_bd (okL_of h2) (by unfold Big; omega) (Nat.le_refl _))
      · exact shift_C l a cap t0 t1 t2 w hl hp (by omega) h2 h3
    · exact shift_B l a cap t0 t1 t2 w hl hp (by omega) h2
end Go.Proofs.Ytnfpmaenikhoaaa
