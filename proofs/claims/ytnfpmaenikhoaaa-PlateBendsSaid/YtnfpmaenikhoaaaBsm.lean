/-
  Shear and bending: plain numbers.
-/
import Derived.Test.YtnfpmaenikhoaaaGsm
namespace Go.Proofs.Ytnfpmaenikhoaaa
open Go.RowKit
def sC (x : Int) (g : Int × Int → Int) (L : List (Int × Int)) : Nat → Int
  | 0 => 0
  | k + 1 => sC x g L k + if (L.getD k (0, 0)).1 ≤ x then g (L.getD k (0, 0)) else 0
theorem sC_yes {x : Int} {g : Int × Int → Int} {L : List (Int × Int)} {k : Nat} (hk : k < L.length) {y : Int × Int} (h : L[k] = y) (hy : y.1 ≤ x) : sC x g L (k + 1) = sC x g L k + g y := by
  have e : L.getD k (0, 0) = y := by rw [List.getD_eq_getElem?_getD, List.getElem?_eq_getElem hk, h]; rfl
  rw [show sC x g L (k + 1) = sC x g L k + (if (L.getD k (0, 0)).1 ≤ x then g (L.getD k (0, 0)) else 0) from rfl, e, if_pos hy]
theorem sC_no {x : Int} {g : Int × Int → Int} {L : List (Int × Int)} {k : Nat} (hk : k < L.length) {y : Int × Int} (h : L[k] = y) (hy : ¬ y.1 ≤ x) : sC x g L (k + 1) = sC x g L k := by
  have e : L.getD k (0, 0) = y := by rw [List.getD_eq_getElem?_getD, List.getElem?_eq_getElem hk, h]; rfl
  rw [show sC x g L (k + 1) = sC x g L k + (if (L.getD k (0, 0)).1 ≤ x then g (L.getD k (0, 0)) else 0) from rfl, e, if_neg hy, Int.add_zero]
theorem sC_bd {x : Int} {g : Int × Int → Int} {L : List (Int × Int)} {M : Int} (h : ∀ y ∈ L, y.1 ≤ x → -M ≤ g y ∧ g y ≤ M) (hM : 0 ≤ M) : ∀ k, k ≤ L.length → -(M * k) ≤ sC x g L k ∧ sC x g L k ≤ M * k
  | 0, _ => by simp [sC]
  | k + 1, hk => by
    have ih := sC_bd h hM k (by omega)
    by_cases hy : (L[k]'(by omega)).1 ≤ x
    · have hg := h _ (List.getElem_mem (show k < L.length by omega)) hy
      rw [sC_yes (show k < L.length by omega) rfl hy]
      push_cast
      rw [Int.mul_add, Int.mul_one]
      omega
    · rw [sC_no (show k < L.length by omega) rfl hy]
      push_cast
      rw [Int.mul_add, Int.mul_one]
      omega
def fS (A B : Int) (y : Int × Int) : Int := y.2 * (B - A)
def fM (A B x : Int) (y : Int × Int) : Int := y.2 * (x - y.1) * (B - A)
theorem fS_bd {A B : Int} {L : List (Int × Int)} (hw : Wid A B) (h : okY A B L) : ∀ y ∈ L, -40000000000 ≤ fS A B y ∧ fS A B y ≤ 40000000000 := fun y hy => by
  obtain ⟨⟨a, b⟩, c, d⟩ := h.2 y hy
  obtain ⟨⟨w0, w1⟩, ⟨w2, w3⟩, w4⟩ := hw
  have := mul_bd c d (show -40000 ≤ B - A by omega) (show B - A ≤ 40000 by omega)
  unfold fS; omega
theorem fM1_bd {A B x : Int} {L : List (Int × Int)} (hw : Wid A B) (h : okY A B L) (hx : A ≤ x ∧ x ≤ B) : ∀ y ∈ L, y.1 ≤ x → -40000000000 ≤ y.2 * (x - y.1) ∧ y.2 * (x - y.1) ≤ 40000000000 := fun y hy hyx => by
  obtain ⟨⟨a, b⟩, c, d⟩ := h.2 y hy
  obtain ⟨⟨w0, w1⟩, ⟨w2, w3⟩, w4⟩ := hw
  have := mul_bd c d (show -40000 ≤ x - y.1 by omega) (show x - y.1 ≤ 40000 by omega)
  omega
theorem fM_bd {A B x : Int} {L : List (Int × Int)} (hw : Wid A B) (h : okY A B L) (hx : A ≤ x ∧ x ≤ B) : ∀ y ∈ L, y.1 ≤ x → -1600000000000000 ≤ fM A B x y ∧ fM A B x y ≤ 1600000000000000 := fun y hy hyx => by
  obtain ⟨p, q⟩ := fM1_bd hw h hx y hy hyx
  obtain ⟨⟨w0, w1⟩, ⟨w2, w3⟩, w4⟩ := hw
  have := mul_bd p q (show -40000 ≤ B - A by omega) (show B - A ≤ 40000 by omega)
  unfold fM; omega
theorem sS_in {A B x : Int} {L : List (Int × Int)} (hw : Wid A B) (h : okY A B L) {k : Nat} (hk : k ≤ L.length) : -4000000000000 ≤ sC x (fS A B) L k ∧ sC x (fS A B) L k ≤ 4000000000000 := by
  have := sC_bd (x := x) (fun y hy _ => fS_bd hw h y hy) (by omega) k hk
  have := h.1
  omega
theorem sM_in {A B x : Int} {L : List (Int × Int)} (hw : Wid A B) (h : okY A B L) (hx : A ≤ x ∧ x ≤ B) {k : Nat} (hk : k ≤ L.length) : -160000000000000000 ≤ sC x (fM A B x) L k ∧ sC x (fM A B x) L k ≤ 160000000000000000 := by
  have := sC_bd (fM_bd hw h hx) (by omega) k hk
  have := h.1
  omega
def stS (W s : Int) (y : Int × Int) : Int := wrap64 (s - wrap64 (y.2 * W))
def stM (W x s : Int) (y : Int × Int) : Int := wrap64 (s - wrap64 (wrap64 (y.2 * wrap64 (x - y.1)) * W))
def foS (W s : Int) (L : List (Int × Int)) : Int := L.foldl (stS W) s
def foM (W x s : Int) (L : List (Int × Int)) : Int := L.foldl (stM W x) s
theorem foS_snoc (W s : Int) (L : List (Int × Int)) (y : Int × Int) : foS W s (L ++ [y]) = stS W (foS W s L) y := by simp [foS]
theorem foM_snoc (W x s : Int) (L : List (Int × Int)) (y : Int × Int) : foM W x s (L ++ [y]) = stM W x (foM W x s L) y := by simp [foM]
theorem foS_take {A B x s : Int} {L : List (Int × Int)} (hw : Wid A B) (h : okY A B L) (hs : -4000000000000 ≤ s ∧ s ≤ 4000000000000) : ∀ k, k ≤ L.length → foS (B - A) s (come x (L.take k)) = s - sC x (fS A B) L k
  | 0, _ => by simp [sC, foS, come]
  | k + 1, hk => by
    have hk' : k < L.length := by omega
    have ih := foS_take (x := x) hw h hs k (by omega)
    by_cases hy : (L[k]'hk').1 ≤ x
    · have e := fS_bd hw h _ (List.getElem_mem hk')
      have f := sS_in (x := x) hw h (k := k) (by omega)
      rw [come_yes hk' hy, foS_snoc, ih, sC_yes hk' rfl hy]
      generalize L[k]'hk' = y at *
      generalize sC x (fS A B) L k = q at *
      unfold stS
      unfold fS at e ⊢
      rw [IntWalk.wrap64_in (y.2 * (B - A)) ⟨by omega, by omega⟩, IntWalk.wrap64_in _ ⟨by omega, by omega⟩]
      omega
    · rw [come_no hk' hy, ih, sC_no hk' rfl hy]
theorem foM_take {A B x s : Int} {L : List (Int × Int)} (hw : Wid A B) (h : okY A B L) (hx : A ≤ x ∧ x ≤ B) (hs : -160000000000000000 ≤ s ∧ s ≤ 160000000000000000) : ∀ k, k ≤ L.length → foM (B - A) x s (come x (L.take k)) = s - sC x (fM A B x) L k
  | 0, _ => by simp [sC, foM, come]
  | k + 1, hk => by
    have hk' : k < L.length := by omega
    have ih := foM_take hw h hx hs k (by omega)
    by_cases hy : (L[k]'hk').1 ≤ x
    · have hm := List.getElem_mem hk'
      have e := fM_bd hw h hx _ hm hy
      have e1 := fM1_bd hw h hx _ hm hy
      have f := sM_in hw h hx (k := k) (by omega)
      obtain ⟨⟨a, b⟩, -⟩ := h.2 _ hm
      obtain ⟨⟨w0, w1⟩, ⟨w2, w3⟩, w4⟩ := hw
      rw [come_yes hk' hy, foM_snoc, ih, sC_yes hk' rfl hy]
      generalize L[k]'hk' = y at *
      generalize sC x (fM A B x) L k = q at *
      unfold stM
      unfold fM at e ⊢
      rw [IntWalk.wrap64_in (x - y.1) ⟨by omega, by omega⟩, IntWalk.wrap64_in (y.2 * (x - y.1)) ⟨by omega, by omega⟩, IntWalk.wrap64_in (y.2 * (x - y.1) * (B - A)) ⟨by omega, by omega⟩, IntWalk.wrap64_in _ ⟨by omega, by omega⟩]
      omega
    · rw [come_no hk' hy, ih, sC_no hk' rfl hy]
theorem foS_eq {A B x s : Int} {L : List (Int × Int)} (hw : Wid A B) (h : okY A B L) (hs : -4000000000000 ≤ s ∧ s ≤ 4000000000000) : foS (B - A) s (come x L) = s - sC x (fS A B) L L.length := by
  have := foS_take (x := x) hw h hs _ (Nat.le_refl _)
  rwa [List.take_length] at this
theorem foM_eq {A B x s : Int} {L : List (Int × Int)} (hw : Wid A B) (h : okY A B L) (hx : A ≤ x ∧ x ≤ B) (hs : -160000000000000000 ≤ s ∧ s ≤ 160000000000000000) : foM (B - A) x s (come x L) = s - sC x (fM A B x) L L.length := by
  have := foM_take hw h hx hs _ (Nat.le_refl _)
  rwa [List.take_length] at this
/-- at the supports nothing is bent -/
theorem bend_A {A B : Int} {L : List (Int × Int)} (h : okY A B L) : ∀ k, k ≤ L.length → sC A (fM A B A) L k = 0
  | 0, _ => rfl
  | k + 1, hk => by
    have hk' : k < L.length := by omega
    have ih := bend_A h k (by omega)
    obtain ⟨⟨a, b⟩, -⟩ := h.2 _ (List.getElem_mem hk')
    by_cases hy : (L[k]'hk').1 ≤ A
    · rw [sC_yes hk' rfl hy, ih]
      unfold fM
      rw [show A - (L[k]'hk').1 = 0 by omega]
      simp
    · rw [sC_no hk' rfl hy, ih]
theorem bend_B {A B : Int} {L : List (Int × Int)} (h : okY A B L) : ∀ k, k ≤ L.length → sC B (fM A B B) L k = sL (fA B) L k * (B - A)
  | 0, _ => by simp [sC, sL]
  | k + 1, hk => by
    have hk' : k < L.length := by omega
    have ih := bend_B h k (by omega)
    obtain ⟨⟨a, b⟩, -⟩ := h.2 _ (List.getElem_mem hk')
    rw [sC_yes hk' rfl b, ih, sL_go hk' rfl, Int.add_mul]
    rfl
end Go.Proofs.Ytnfpmaenikhoaaa
