/-
  Sums of forces and moments, about another place, of forces that are moved: numbers alone.
-/
import Derived.Test.YtahfliboanphkaaFmo
import Derived.Test.YtahfliboanphkaaMov
namespace Go.Proofs.Ytahfliboanphkaa
open Go.RowKit
theorem shiftX (t1 t2 : Int) (l : List Pf) : ∀ k, sA (mX t1 t2) l k = sA (mX 0 0) l k - (t1 * sA Pf.r l k - t2 * sA Pf.q l k)
  | 0 => by simp [sA]
  | k + 1 => by
    have ih := shiftX t1 t2 l k
    simp only [sA]
    generalize l.getD k ⟨0, 0, 0, 0, 0, 0⟩ = p at *
    rw [ih]
    unfold mX
    simp only [Int.add_mul, Int.mul_add, Int.neg_mul, Int.neg_zero, Int.zero_mul]
    omega
theorem shiftY (t0 t2 : Int) (l : List Pf) : ∀ k, sA (mY t0 t2) l k = sA (mY 0 0) l k - (t2 * sA Pf.p l k - t0 * sA Pf.r l k)
  | 0 => by simp [sA]
  | k + 1 => by
    have ih := shiftY t0 t2 l k
    simp only [sA]
    generalize l.getD k ⟨0, 0, 0, 0, 0, 0⟩ = p at *
    rw [ih]
    unfold mY
    simp only [Int.add_mul, Int.mul_add, Int.neg_mul, Int.neg_zero, Int.zero_mul]
    omega
theorem shiftZ (t0 t1 : Int) (l : List Pf) : ∀ k, sA (mZ t0 t1) l k = sA (mZ 0 0) l k - (t0 * sA Pf.q l k - t1 * sA Pf.p l k)
  | 0 => by simp [sA]
  | k + 1 => by
    have ih := shiftZ t0 t1 l k
    simp only [sA]
    generalize l.getD k ⟨0, 0, 0, 0, 0, 0⟩ = p at *
    rw [ih]
    unfold mZ
    simp only [Int.add_mul, Int.mul_add, Int.neg_mul, Int.neg_zero, Int.zero_mul]
    omega
theorem chkP_wrap (l : List Pf) : IntKind.i64.wrap (chkP l) = chkP l := by
  unfold chkP
  split
  · rfl
  · have : ∀ l : List Pf, chkR l = 0 ∨ chkR l = 2 := by
      intro l
      induction l with
      | nil => exact .inl rfl
      | cons p t ih =>
        show (if badP p then (2 : Int) else chkR t) = 0 ∨ (if badP p then (2 : Int) else chkR t) = 2
        cases badP p
        · simpa using ih
        · exact .inr rfl
    rcases this l with h | h <;> rw [h] <;> rfl
theorem chkR_of : ∀ {l : List Pf}, (∀ p ∈ l, badP p = false) → chkR l = 0
  | [], _ => rfl
  | p :: t, h => by
    show (if badP p then (2 : Int) else chkR t) = 0
    rw [h p (by simp)]
    simpa using chkR_of (l := t) (fun q hq => h q (by simp [hq]))
theorem mvE_zero {b0 b1 b2 : Int} : ∀ {l : List Pf}, mvE b0 b1 b2 l = 0 → ∀ p ∈ l, mvBad b0 b1 b2 p = false
  | [], _, p, hp => by simp at hp
  | q :: t, h, p, hp => by
    unfold mvE at h
    cases hq : mvBad b0 b1 b2 q
    · rw [hq] at h
      simp at h
      rcases List.mem_cons.1 hp with rfl | hp
      · exact hq
      · exact mvE_zero h p hp
    · rw [hq] at h; simp at h
theorem mvE_two {b0 b1 b2 : Int} : ∀ (l : List Pf), mvE b0 b1 b2 l = 0 ∨ mvE b0 b1 b2 l = 2
  | [] => .inl rfl
  | q :: t => by
    unfold mvE
    cases mvBad b0 b1 b2 q
    · simpa using mvE_two t
    · exact .inr rfl
theorem chkP_map {b0 b1 b2 : Int} {l : List Pf} (h : okL l) (hm : mvE b0 b1 b2 l = 0) : chkP (l.map (mv b0 b1 b2)) = 0 := by
  unfold chkP
  rw [if_neg (by rw [List.length_map]; have := h.1; omega)]
  refine chkR_of fun p hp => ?_
  obtain ⟨q, hq, rfl⟩ := List.mem_map.1 hp
  have h1 := mvE_zero hm q hq
  have h2 := h.2 q hq
  unfold mvBad at h1
  unfold badP at h2 ⊢
  rw [Bool.or_eq_false_iff] at h1 h2 ⊢
  exact ⟨h1.2, h2.2⟩
theorem sA_map (f : Pf → Pf) (g : Pf → Int) (l : List Pf) : ∀ k, k ≤ l.length → sA g (l.map f) k = sA (fun p => g (f p)) l k
  | 0, _ => rfl
  | k + 1, hk => by
    rw [sA_go (l := l.map f) (p := f l[k]) (by rw [List.length_map]; omega) (by simp), sA_go (l := l) (p := l[k]) (by omega) rfl, sA_map f g l k (by omega)]
theorem mvX (b0 b1 b2 : Int) : (fun p => mX 0 0 (mv b0 b1 b2 p)) = mX (-b1) (-b2) := by
  funext p; unfold mX mv; simp
theorem mvY (b0 b1 b2 : Int) : (fun p => mY 0 0 (mv b0 b1 b2 p)) = mY (-b0) (-b2) := by
  funext p; unfold mY mv; simp
theorem mvZ (b0 b1 b2 : Int) : (fun p => mZ 0 0 (mv b0 b1 b2 p)) = mZ (-b0) (-b1) := by
  funext p; unfold mZ mv; simp
/-- sum and moment of moved forces: the sum is the same; where it is 0, so is the moment -/
theorem bal_map (b0 b1 b2 : Int) (l : List Pf) :
    ((sA Pf.p (l.map (mv b0 b1 b2)) (l.map (mv b0 b1 b2)).length == 0 && (sA Pf.q (l.map (mv b0 b1 b2)) (l.map (mv b0 b1 b2)).length == 0 && sA Pf.r (l.map (mv b0 b1 b2)) (l.map (mv b0 b1 b2)).length == 0)) && (sA (mX 0 0) (l.map (mv b0 b1 b2)) (l.map (mv b0 b1 b2)).length == 0 && (sA (mY 0 0) (l.map (mv b0 b1 b2)) (l.map (mv b0 b1 b2)).length == 0 && sA (mZ 0 0) (l.map (mv b0 b1 b2)) (l.map (mv b0 b1 b2)).length == 0))) =
    ((sA Pf.p l l.length == 0 && (sA Pf.q l l.length == 0 && sA Pf.r l l.length == 0)) && (sA (mX 0 0) l l.length == 0 && (sA (mY 0 0) l l.length == 0 && sA (mZ 0 0) l l.length == 0))) := by
  rw [List.length_map, sA_map _ _ l _ (Nat.le_refl _), sA_map _ _ l _ (Nat.le_refl _), sA_map _ _ l _ (Nat.le_refl _), sA_map _ _ l _ (Nat.le_refl _), sA_map _ _ l _ (Nat.le_refl _), sA_map _ _ l _ (Nat.le_refl _), mvX, mvY, mvZ, shiftX (-b1) (-b2), shiftY (-b0) (-b2), shiftZ (-b0) (-b1)]
  show ((sA Pf.p l l.length == 0 && (sA Pf.q l l.length == 0 && sA Pf.r l l.length == 0)) && _) = _
  generalize sA Pf.p l l.length = x
  generalize sA Pf.q l l.length = y
  generalize sA Pf.r l l.length = z
  by_cases hx : x = 0
  · by_cases hy : y = 0
    · by_cases hz : z = 0
      · subst hx hy hz; simp
      · rw [show (z == 0) = false from by simpa using hz]; simp
    · rw [show (y == 0) = false from by simpa using hy]; simp
  · rw [show (x == 0) = false from by simpa using hx]; simp
theorem sum_map (b0 b1 b2 : Int) (l : List Pf) : sA Pf.p (l.map (mv b0 b1 b2)) l.length = sA Pf.p l l.length ∧ sA Pf.q (l.map (mv b0 b1 b2)) l.length = sA Pf.q l l.length ∧ sA Pf.r (l.map (mv b0 b1 b2)) l.length = sA Pf.r l l.length :=
  ⟨sA_map _ _ l _ (Nat.le_refl _), sA_map _ _ l _ (Nat.le_refl _), sA_map _ _ l _ (Nat.le_refl _)⟩
end Go.Proofs.Ytahfliboanphkaa
