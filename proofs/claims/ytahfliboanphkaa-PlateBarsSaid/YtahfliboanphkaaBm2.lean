/-
  Bars: numbers alone: the loads of bars by both ways are the same.
-/
import Derived.Test.YtahfliboanphkaaRdi
namespace Go.Proofs.Ytahfliboanphkaa
open Go.RowKit
/-- sums over a list, load by load -/
def tot (g : Int × Int → Int) : List (Int × Int) → Int
  | [] => 0
  | y :: t => g y + tot g t
theorem tot_append (g : Int × Int → Int) : ∀ (A B : List (Int × Int)), tot g (A ++ B) = tot g A + tot g B
  | [], B => by simp [tot]
  | y :: t, B => by
    show g y + tot g (t ++ B) = g y + tot g t + tot g B
    rw [tot_append g t B]; omega
theorem sL_take (g : Int × Int → Int) (L : List (Int × Int)) : ∀ k, k ≤ L.length → sL g L k = tot g (L.take k)
  | 0, _ => rfl
  | k + 1, hk => by
    rw [sL_go (show k < L.length by omega) rfl, sL_take g L k (by omega), List.take_succ_eq_append_getElem (show k < L.length by omega), tot_append]
    simp [tot]
theorem sL_tot (g : Int × Int → Int) (L : List (Int × Int)) : sL g L L.length = tot g L := by
  rw [sL_take g L _ (Nat.le_refl _), List.take_length]
theorem tot_filter (p : Int × Int → Bool) (g : Int × Int → Int) : ∀ L : List (Int × Int), tot g (L.filter p) = tot (fun y => if p y then g y else 0) L
  | [] => rfl
  | y :: t => by
    have ih := tot_filter p g t
    cases h : p y
    · rw [List.filter_cons_of_neg (by simp [h]), ih]
      show _ = (if p y then g y else 0) + _
      rw [h]; simp
    · rw [List.filter_cons_of_pos h]
      show g y + _ = (if p y then g y else 0) + _
      rw [ih, h]; simp
theorem tot_lin (f g h : Int × Int → Int) (c : Int) : ∀ L : List (Int × Int), (∀ y ∈ L, f y = g y * c + h y) → tot f L = tot g L * c + tot h L
  | [], _ => by simp [tot]
  | y :: t, hy => by
    have ih := tot_lin f g h c t (fun z hz => hy z (by simp [hz]))
    show f y + tot f t = (g y + tot g t) * c + (h y + tot h t)
    rw [hy y (by simp), ih, Int.add_mul]; omega
theorem tot_same (f g : Int × Int → Int) : ∀ L : List (Int × Int), (∀ y ∈ L, f y = g y) → tot f L = tot g L
  | [], _ => rfl
  | y :: t, hy => by
    have ih := tot_same f g t (fun z hz => hy z (by simp [hz]))
    show f y + tot f t = g y + tot g t
    rw [hy y (by simp), ih]
/-- a load lies in the stretch i just if it lies behind its first bar (or at it, if that is the first of all) and not behind its second -/
theorem in_part {l : List Int} {m : Nat} (hm : l.length = m + 1) (h : OkB l) {L : List (Int × Int)} (hL : okY (l.getD 0 0) (l.getD m 0) L) (i : Nat) (hi : i < m) (y : Int × Int) (hy : y ∈ L) :
    (sIdx l.tail y.1 == (i : Int)) = decide ((l.getD i 0 < y.1 ∨ (i = 0 ∧ l.getD i 0 = y.1)) ∧ y.1 ≤ l.getD (i + 1) 0) := by
  obtain ⟨⟨a, b⟩, -⟩ := hL.2 y hy
  obtain ⟨s, e, s0, s1, s2, s3⟩ := sIdx_spec hm h a b
  rw [e]
  rw [Bool.eq_iff_iff]
  simp only [beq_iff_eq, decide_eq_true_eq]
  constructor
  · intro hs
    have : s = i := by omega
    subst this
    refine ⟨?_, s2⟩
    rcases Nat.eq_zero_or_pos s with rfl | hp
    · by_cases hq : l.getD 0 0 = y.1
      · exact .inr ⟨rfl, hq⟩
      · left; omega
    · exact .inl (s3 hp)
  · rintro ⟨h1, h2⟩
    rcases Nat.lt_trichotomy s i with hlt | rfl | hgt
    · exfalso
      have := h.le (i := s + 1) (j := i) (by omega) (by omega)
      rcases h1 with h1 | ⟨rfl, -⟩
      · omega
      · omega
    · rfl
    · exfalso
      have := h.le (i := i + 1) (j := s) (by omega) (by omega)
      have := s3 (by omega)
      omega
theorem ite_t {p : Prop} [Decidable p] (h : p) (a b : Int) : (if (decide p) = true then a else b) = a := by rw [decide_eq_true h]; rfl
theorem ite_f {p : Prop} [Decidable p] (h : ¬p) (a b : Int) : (if (decide p) = true then a else b) = b := by rw [decide_eq_false h]; rfl
theorem RA_zero {l : List Int} {m : Nat} (hm : l.length = m + 1) (h : OkB l) {L : List (Int × Int)} (hL : okY (l.getD 0 0) (l.getD m 0) L) (hi : 0 < m) :
    RAi l L 0 = tot (ow l 0) L * Wi l 0 + tot (rg l m 0) L := by
  unfold RAi part
  rw [sL_tot, tot_filter]
  refine tot_lin _ _ _ _ L (fun y hy => ?_)
  have hp := in_part hm h hL 0 hi y hy
  have hlo := (hL.2 y hy).1.1
  have hCN := h.2.2 0 (by omega)
  show (if (sIdx l.tail y.1 == ((0 : Nat) : Int)) = true then fA (l.getD (0 + 1) 0) y else 0) = _
  rw [hp]
  unfold fA ow rg Wi
  generalize l.getD 0 0 = C at *
  generalize l.getD (0 + 1) 0 = N at *
  by_cases h0 : y.1 = C
  · rw [ite_t ⟨.inr ⟨rfl, h0.symm⟩, by omega⟩, if_pos h0, if_pos h0, h0]; omega
  · by_cases h1 : y.1 < N
    · rw [ite_t ⟨.inl (by omega), by omega⟩, if_neg h0, if_neg h0, if_neg (by omega), if_pos ⟨hi, by omega, h1⟩]; omega
    · by_cases h2 : y.1 = N
      · rw [ite_t ⟨.inl (by omega), by omega⟩, if_neg h0, if_neg h0, if_neg (by omega), if_neg (by omega), h2]; simp
      · rw [ite_f (by omega), if_neg h0, if_neg h0, if_neg (by omega), if_neg (by omega)]; omega
theorem RA_mid {l : List Int} {m : Nat} (hm : l.length = m + 1) (h : OkB l) {L : List (Int × Int)} (hL : okY (l.getD 0 0) (l.getD m 0) L) (i : Nat) (h0 : 0 < i) (hi : i < m) :
    RAi l L i = tot (rg l m i) L := by
  unfold RAi part
  rw [sL_tot, tot_filter]
  refine tot_same _ _ L (fun y hy => ?_)
  have hp := in_part hm h hL i hi y hy
  have hCN := h.2.2 i (by omega)
  show (if (sIdx l.tail y.1 == (i : Int)) = true then fA (l.getD (i + 1) 0) y else 0) = _
  rw [hp]
  unfold fA rg
  generalize l.getD i 0 = C at *
  generalize l.getD (i + 1) 0 = N at *
  generalize l.getD (i - 1) 0 = P at *
  by_cases h1 : y.1 = C
  · rw [ite_f (by omega), if_pos h1]
  · rw [if_neg h1]
    by_cases h2 : y.1 < C
    · rw [ite_f (by omega)]
      by_cases h3 : P < y.1
      · rw [if_pos ⟨h0, h3, h2⟩]
      · rw [if_neg (by omega), if_neg (by omega)]
    · rw [if_neg (show ¬ (0 < i ∧ P < y.1 ∧ y.1 < C) by omega)]
      by_cases h3 : y.1 < N
      · rw [ite_t ⟨.inl (by omega), by omega⟩, if_pos ⟨hi, by omega, h3⟩]
      · rw [if_neg (show ¬ (i < m ∧ C < y.1 ∧ y.1 < N) by omega)]
        by_cases h4 : y.1 = N
        · rw [ite_t ⟨.inl (by omega), by omega⟩, h4]; simp
        · rw [ite_f (by omega)]
theorem RB_mid {l : List Int} {m : Nat} (hm : l.length = m + 1) (h : OkB l) {L : List (Int × Int)} (hL : okY (l.getD 0 0) (l.getD m 0) L) (i : Nat) (hi : i < m) :
    RBi l L i = tot (ow l (i + 1)) L * Wi l i + tot (lf l (i + 1)) L := by
  unfold RBi part
  rw [sL_tot, tot_filter]
  refine tot_lin _ _ _ _ L (fun y hy => ?_)
  have hp := in_part hm h hL i hi y hy
  have hCN := h.2.2 i (by omega)
  have hlo := (hL.2 y hy).1.1
  show (if (sIdx l.tail y.1 == (i : Int)) = true then fB (l.getD i 0) y else 0) = _
  rw [hp]
  unfold fB ow lf Wi
  rw [show i + 1 - 1 = i by omega]
  have hz : i = 0 → l.getD i 0 = l.getD 0 0 := fun e => by rw [e]
  generalize l.getD i 0 = C at *
  generalize l.getD (i + 1) 0 = N at *
  generalize l.getD 0 0 = Z at *
  by_cases h1 : y.1 = N
  · rw [ite_t ⟨.inl (by omega), by omega⟩, if_pos h1, if_pos h1, h1]; omega
  · rw [if_neg h1, if_neg h1]
    by_cases h2 : C < y.1
    · by_cases h3 : y.1 < N
      · rw [ite_t ⟨.inl h2, by omega⟩, if_pos ⟨by omega, h2, h3⟩]; omega
      · rw [ite_f (by omega), if_neg (by omega)]; omega
    · rw [if_neg (show ¬ (0 < i + 1 ∧ C < y.1 ∧ y.1 < N) by omega)]
      by_cases h3 : i = 0 ∧ C = y.1
      · rw [ite_t ⟨.inr h3, by omega⟩, h3.2]; simp
      · rw [ite_f (by omega)]; omega
/-- each bar's load is the same by both ways -/
theorem bars_same {l : List Int} {m : Nat} (hm : l.length = m + 1) (h : OkB l) {L : List (Int × Int)} (hL : okY (l.getD 0 0) (l.getD m 0) L) (i : Nat) (hi : i ≤ m) : baN l L m i = rfN l m L i ∧ baD l L m i = rfD l m L i := by
  have hm1 : 0 < m := by have := h.1; omega
  unfold rfN rfD rnum rden
  rw [sL_tot, sL_tot, sL_tot]
  rcases (show i = 0 ∨ (0 < i ∧ i < m) ∨ (0 < i ∧ i = m) by omega) with rfl | ⟨h0, h1⟩ | ⟨h0, rfl⟩
  · obtain ⟨-, -, w0, w1⟩ := RA_bd hm h hL 0 hm1
    have e := RA_zero hm h hL hm1
    have hlf : tot (lf l 0) L = 0 := by
      rw [tot_same (lf l 0) (fun _ => 0) L (fun y _ => by unfold lf; split; rfl; rw [if_neg (by omega)])]
      clear e
      induction L with
      | nil => rfl
      | cons y t ih => show (0 : Int) + _ = 0; rw [ih ⟨by have := hL.1; simp at this; omega, fun z hz => hL.2 z (by simp [hz])⟩]; rfl
    have hb : Wb l 0 = 1 := by unfold Wb; rw [if_neg (by omega)]
    have hn : Wn l m 0 = Wi l 0 := by unfold Wn Wi; rw [if_pos hm1]
    obtain ⟨-, b2, -, b4⟩ := red_back (n := RAi l L 0) w0
    unfold baN baD
    rw [if_pos hm1, if_pos hm1, hb, hn, hlf]
    show redN (0 * redD (RAi l L 0) (Wi l 0) + redN (RAi l L 0) (Wi l 0) * 1) (1 * redD (RAi l L 0) (Wi l 0)) = _ ∧ redD (0 * redD (RAi l L 0) (Wi l 0) + redN (RAi l L 0) (Wi l 0) * 1) (1 * redD (RAi l L 0) (Wi l 0)) = _
    simp only [Int.zero_mul, Int.zero_add, Int.mul_one, Int.one_mul, Int.add_zero]
    rw [← e]
    have := red_two (t := 1) (n := RAi l L 0) w0
    simpa using this
  · obtain ⟨p, rfl⟩ : ∃ p, i = p + 1 := ⟨i - 1, by omega⟩
    obtain ⟨-, -, w0, w1⟩ := RA_bd hm h hL (p + 1) h1
    obtain ⟨-, -, v0, v1⟩ := RA_bd hm h hL p (by omega)
    have eA := RA_mid hm h hL (p + 1) h0 h1
    have eB := RB_mid hm h hL p (by omega)
    have hb : Wb l (p + 1) = Wi l p := by unfold Wb Wi; rw [if_pos (by omega)]; rfl
    have hn : Wn l m (p + 1) = Wi l (p + 1) := by unfold Wn Wi; rw [if_pos h1]
    obtain ⟨g1, a1, a2, a3⟩ := red_back (n := RBi l L p) v0
    obtain ⟨g2, c1, c2, c3⟩ := red_back (n := RAi l L (p + 1)) w0
    unfold baN baD
    rw [if_pos h1, if_pos h1, hb, hn, ← eA]
    show redN (redN (RBi l L p) (Wi l p) * redD (RAi l L (p + 1)) (Wi l (p + 1)) + redN (RAi l L (p + 1)) (Wi l (p + 1)) * redD (RBi l L p) (Wi l p)) (redD (RBi l L p) (Wi l p) * redD (RAi l L (p + 1)) (Wi l (p + 1))) = _ ∧ redD (redN (RBi l L p) (Wi l p) * redD (RAi l L (p + 1)) (Wi l (p + 1)) + redN (RAi l L (p + 1)) (Wi l (p + 1)) * redD (RBi l L p) (Wi l p)) (redD (RBi l L p) (Wi l p) * redD (RAi l L (p + 1)) (Wi l (p + 1))) = _
    rw [show tot (ow l (p + 1)) L * Wi l p * Wi l (p + 1) + tot (lf l (p + 1)) L * Wi l (p + 1) = RBi l L p * Wi l (p + 1) by rw [eB, Int.add_mul]]
    generalize redN (RBi l L p) (Wi l p) = x1 at *
    generalize redD (RBi l L p) (Wi l p) = x2 at *
    generalize redN (RAi l L (p + 1)) (Wi l (p + 1)) = y1 at *
    generalize redD (RAi l L (p + 1)) (Wi l (p + 1)) = y2 at *
    generalize gcdI (RBi l L p) (Wi l p) = g at *
    generalize gcdI (RAi l L (p + 1)) (Wi l (p + 1)) = k at *
    have key := red_mul (g := g * k) (n := x1 * y2 + y1 * x2) (d := x2 * y2) (Int.mul_pos g1 g2)
    have n1 : g * k * (x1 * y2 + y1 * x2) = RBi l L p * Wi l (p + 1) + RAi l L (p + 1) * Wi l p := by
      rw [a1, a2, c1, c2, Int.mul_add]
      congr 1
      · rw [Int.mul_assoc, Int.mul_assoc, Int.mul_left_comm k x1 y2]
      · ac_rfl
    have n2 : g * k * (x2 * y2) = Wi l p * Wi l (p + 1) := by
      rw [a2, c2, Int.mul_assoc, Int.mul_assoc, Int.mul_left_comm k x2 y2]
    rw [n1, n2] at key
    exact ⟨key.1.symm, key.2.symm⟩
  · obtain ⟨p, rfl⟩ : ∃ p, i = p + 1 := ⟨i - 1, by omega⟩
    have eB := RB_mid hm h hL p (by omega)
    have hrg : tot (rg l (p + 1) (p + 1)) L = 0 := by
      rw [tot_same (rg l (p + 1) (p + 1)) (fun _ => 0) L (fun y _ => by unfold rg; split; rfl; split; rfl; rw [if_neg (by omega)])]
      clear eB
      induction L with
      | nil => rfl
      | cons y t ih => show (0 : Int) + _ = 0; rw [ih ⟨by have := hL.1; simp at this; omega, fun z hz => hL.2 z (by simp [hz])⟩]; rfl
    have hb : Wb l (p + 1) = Wi l p := by unfold Wb Wi; rw [if_pos (by omega)]; rfl
    have hn : Wn l (p + 1) (p + 1) = 1 := by unfold Wn; rw [if_neg (by omega)]
    unfold baN baD
    rw [if_neg (by omega), if_neg (by omega), hb, hn, hrg]
    simp only [Int.zero_mul, Int.mul_one, Int.add_zero]
    rw [← eB]
    exact ⟨rfl, rfl⟩
end Go.Proofs.Ytahfliboanphkaa
