/-
  Sums over loads: plain numbers.
-/
import Derived.Test.YtahfliboanphkaaGir
import Derived.Test.YtahfliboanphkaaRea
import Derived.IntWalk
namespace Go.Proofs.Ytahfliboanphkaa
open Go.RowKit
def sL (g : Int × Int → Int) (L : List (Int × Int)) : Nat → Int
  | 0 => 0
  | k + 1 => sL g L k + g (L.getD k (0, 0))
theorem sL_go {g : Int × Int → Int} {L : List (Int × Int)} {k : Nat} (hk : k < L.length) {y : Int × Int} (h : L[k] = y) : sL g L (k + 1) = sL g L k + g y := by
  rw [show sL g L (k + 1) = sL g L k + g (L.getD k (0, 0)) from rfl, List.getD_eq_getElem?_getD, List.getElem?_eq_getElem hk, h]; rfl
theorem sL_bd {g : Int × Int → Int} {L : List (Int × Int)} {M : Int} (h : ∀ y ∈ L, -M ≤ g y ∧ g y ≤ M) (hM : 0 ≤ M) : ∀ k, k ≤ L.length → -(M * k) ≤ sL g L k ∧ sL g L k ≤ M * k
  | 0, _ => by simp [sL]
  | k + 1, hk => by
    have ih := sL_bd h hM k (by omega)
    have hg := h _ (List.getElem_mem (show k < L.length by omega))
    rw [sL_go (show k < L.length by omega) rfl]
    push_cast
    rw [Int.mul_add, Int.mul_one]
    omega
def fA (B : Int) (y : Int × Int) : Int := y.2 * (B - y.1)
def fB (A : Int) (y : Int × Int) : Int := y.2 * (y.1 - A)
def fW (y : Int × Int) : Int := y.2
def Wid (A B : Int) : Prop := (-20000 ≤ A ∧ A ≤ 20000) ∧ (-20000 ≤ B ∧ B ≤ 20000) ∧ A < B
theorem fA_bd {A B : Int} {L : List (Int × Int)} (hw : Wid A B) (h : okY A B L) : ∀ y ∈ L, -40000000000 ≤ fA B y ∧ fA B y ≤ 40000000000 := fun y hy => by
  obtain ⟨⟨a, b⟩, c, d⟩ := h.2 y hy
  obtain ⟨⟨w0, w1⟩, ⟨w2, w3⟩, w4⟩ := hw
  have := mul_bd c d (show -40000 ≤ B - y.1 by omega) (show B - y.1 ≤ 40000 by omega)
  unfold fA; omega
theorem fB_bd {A B : Int} {L : List (Int × Int)} (hw : Wid A B) (h : okY A B L) : ∀ y ∈ L, -40000000000 ≤ fB A y ∧ fB A y ≤ 40000000000 := fun y hy => by
  obtain ⟨⟨a, b⟩, c, d⟩ := h.2 y hy
  obtain ⟨⟨w0, w1⟩, ⟨w2, w3⟩, w4⟩ := hw
  have := mul_bd c d (show -40000 ≤ y.1 - A by omega) (show y.1 - A ≤ 40000 by omega)
  unfold fB; omega
theorem sA_in {A B : Int} {L : List (Int × Int)} (hw : Wid A B) (h : okY A B L) {k : Nat} (hk : k ≤ L.length) : -4000000000000 ≤ sL (fA B) L k ∧ sL (fA B) L k ≤ 4000000000000 := by
  have := sL_bd (fA_bd hw h) (by omega) k hk
  have := h.1
  omega
theorem sB_in {A B : Int} {L : List (Int × Int)} (hw : Wid A B) (h : okY A B L) {k : Nat} (hk : k ≤ L.length) : -4000000000000 ≤ sL (fB A) L k ∧ sL (fB A) L k ≤ 4000000000000 := by
  have := sL_bd (fB_bd hw h) (by omega) k hk
  have := h.1
  omega
theorem sW_in {A B : Int} {L : List (Int × Int)} (h : okY A B L) {k : Nat} (hk : k ≤ L.length) : -100000000 ≤ sL fW L k ∧ sL fW L k ≤ 100000000 := by
  have := sL_bd (g := fW) (L := L) (M := 1000000) (fun y hy => (h.2 y hy).2) (by omega) k hk
  have := h.1
  omega
theorem sL_both (A B : Int) (L : List (Int × Int)) : ∀ k, sL (fB A) L k = sL fW L k * (B - A) - sL (fA B) L k
  | 0 => by simp [sL]
  | k + 1 => by
    have ih := sL_both A B L k
    simp only [sL]
    generalize L.getD k (0, 0) = y at *
    rw [ih]
    unfold fA fB fW
    simp only [Int.add_mul, Int.mul_sub, Int.sub_mul]
    omega
theorem come_all {B : Int} : ∀ {L : List (Int × Int)}, (∀ y ∈ L, y.1 ≤ B) → come B L = L := fun {L} h => by
  unfold come
  exact List.filter_eq_self.2 (fun y hy => by simpa using h y hy)
theorem sumA_take {A B : Int} {L : List (Int × Int)} (hw : Wid A B) (h : okY A B L) : ∀ k, k ≤ L.length → sumA B (L.take k) = sL (fA B) L k
  | 0, _ => by simp [sL, sumA]
  | k + 1, hk => by
    have ih := sumA_take hw h k (by omega)
    have hm := List.getElem_mem (show k < L.length by omega)
    obtain ⟨⟨a, b⟩, c, d⟩ := h.2 _ hm
    have e := fA_bd hw h _ hm
    have f := sA_in hw h (k := k) (by omega)
    obtain ⟨⟨w0, w1⟩, ⟨w2, w3⟩, w4⟩ := hw
    rw [List.take_succ_eq_append_getElem (show k < L.length by omega), sumA_snoc, ih, sL_go (show k < L.length by omega) rfl]
    generalize L[k] = y at *
    generalize sL (fA B) L k = q at *
    unfold stA
    rw [IntWalk.wrap64_in (B - y.1) ⟨by omega, by omega⟩]
    unfold fA at e ⊢
    rw [IntWalk.wrap64_in (y.2 * (B - y.1)) ⟨by omega, by omega⟩, IntWalk.wrap64_in _ ⟨by omega, by omega⟩]
theorem sumB_take {A B : Int} {L : List (Int × Int)} (hw : Wid A B) (h : okY A B L) : ∀ k, k ≤ L.length → sumB A (L.take k) = sL (fB A) L k
  | 0, _ => by simp [sL, sumB]
  | k + 1, hk => by
    have ih := sumB_take hw h k (by omega)
    have hm := List.getElem_mem (show k < L.length by omega)
    obtain ⟨⟨a, b⟩, c, d⟩ := h.2 _ hm
    have e := fB_bd hw h _ hm
    have f := sB_in hw h (k := k) (by omega)
    obtain ⟨⟨w0, w1⟩, ⟨w2, w3⟩, w4⟩ := hw
    rw [List.take_succ_eq_append_getElem (show k < L.length by omega), sumB_snoc, ih, sL_go (show k < L.length by omega) rfl]
    generalize L[k] = y at *
    generalize sL (fB A) L k = q at *
    unfold stB
    rw [IntWalk.wrap64_in (y.1 - A) ⟨by omega, by omega⟩]
    unfold fB at e ⊢
    rw [IntWalk.wrap64_in (y.2 * (y.1 - A)) ⟨by omega, by omega⟩, IntWalk.wrap64_in _ ⟨by omega, by omega⟩]
theorem sumA_eq {A B : Int} {L : List (Int × Int)} (hw : Wid A B) (h : okY A B L) : sumA B (come B L) = sL (fA B) L L.length := by
  rw [come_all (fun y hy => (h.2 y hy).1.2), ← sumA_take hw h _ (Nat.le_refl _), List.take_length]
theorem sumB_eq {A B : Int} {L : List (Int × Int)} (hw : Wid A B) (h : okY A B L) : sumB A (come B L) = sL (fB A) L L.length := by
  rw [come_all (fun y hy => (h.2 y hy).1.2), ← sumB_take hw h _ (Nat.le_refl _), List.take_length]
end Go.Proofs.Ytahfliboanphkaa
