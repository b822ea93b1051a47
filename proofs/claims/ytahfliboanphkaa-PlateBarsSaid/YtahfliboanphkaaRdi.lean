/-
  The loads of bars: the reference's Distribute.
-/
import Derived.Test.YtahfliboanphkaaDst
import Derived.Test.YtahfliboanphkaaRbe
import Derived.BigGuardPart
import Derived.Outline
namespace Go.Proofs.Ytahfliboanphkaa
open Go.RowKit
attribute [local go_sem ↓] Go.wp_at_zero Go.wp_at_succ
/-- what a load gives a bar, from the left, from the right, its own -/
def lf (l : List Int) (i : Nat) (y : Int × Int) : Int := if y.1 = l.getD i 0 then 0 else if 0 < i ∧ l.getD (i - 1) 0 < y.1 ∧ y.1 < l.getD i 0 then y.2 * (y.1 - l.getD (i - 1) 0) else 0
def rg (l : List Int) (m i : Nat) (y : Int × Int) : Int := if y.1 = l.getD i 0 then 0 else if 0 < i ∧ l.getD (i - 1) 0 < y.1 ∧ y.1 < l.getD i 0 then 0 else if i < m ∧ l.getD i 0 < y.1 ∧ y.1 < l.getD (i + 1) 0 then y.2 * (l.getD (i + 1) 0 - y.1) else 0
def ow (l : List Int) (i : Nat) (y : Int × Int) : Int := if y.1 = l.getD i 0 then y.2 else 0
def Wb (l : List Int) (i : Nat) : Int := if 0 < i then l.getD i 0 - l.getD (i - 1) 0 else 1
def Wn (l : List Int) (m i : Nat) : Int := if i < m then l.getD (i + 1) 0 - l.getD i 0 else 1
def rnum (l : List Int) (m : Nat) (L : List (Int × Int)) (i : Nat) : Int := sL (ow l i) L L.length * Wb l i * Wn l m i + sL (lf l i) L L.length * Wn l m i + sL (rg l m i) L L.length * Wb l i
def rden (l : List Int) (m i : Nat) : Int := Wb l i * Wn l m i
def rfN (l : List Int) (m : Nat) (L : List (Int × Int)) (i : Nat) : Int := redN (rnum l m L i) (rden l m i)
def rfD (l : List Int) (m : Nat) (L : List (Int × Int)) (i : Nat) : Int := redD (rnum l m L i) (rden l m i)
theorem brl_snoc (N D : Nat → Int) (i : Nat) : brl N D i i ++ [.int .i64 (N i), .int .i64 (D i)] = brl N D (i + 1) (i + 1) := by
  unfold brl
  rw [show (i + 1) * 2 = i * 2 + 1 + 1 by omega, List.range_succ, List.range_succ, List.map_append, List.map_append, List.append_assoc]
  congr 1
  · apply List.map_congr_left
    intro j hj
    have hj' : j < i * 2 := by simpa using hj
    unfold brv
    have h1 : j / 2 < i := by omega
    have h2 : j / 2 < i + 1 := by omega
    simp [h1, h2]
  · have e1 : i * 2 / 2 = i := by omega
    have e2 : (i * 2 + 1) / 2 = i := by omega
    have e3 : (i * 2 + 1) % 2 = 1 := by omega
    simp [brv, e1, e2, e3]
theorem lf_bd {l : List Int} {m : Nat} (hm : l.length = m + 1) (h : OkB l) {L : List (Int × Int)} (hL : okY (l.getD 0 0) (l.getD m 0) L) (i : Nat) (hi : i ≤ m) : (∀ y ∈ L, -40000000000 ≤ lf l i y ∧ lf l i y ≤ 40000000000) ∧ (∀ y ∈ L, -40000000000 ≤ rg l m i y ∧ rg l m i y ≤ 40000000000) ∧ ∀ y ∈ L, -1000000 ≤ ow l i y ∧ ow l i y ≤ 1000000 := by
  have b0 := h.2.1 0 (by omega); have bm := h.2.1 m (by omega); have bi := h.2.1 i (by omega)
  have bp := h.2.1 (i - 1) (by omega)
  refine ⟨fun y hy => ?_, fun y hy => ?_, fun y hy => ?_⟩
  · obtain ⟨⟨a, b⟩, c, d⟩ := hL.2 y hy
    have := mul_bd c d (show -40000 ≤ y.1 - l.getD (i - 1) 0 by omega) (show y.1 - l.getD (i - 1) 0 ≤ 40000 by omega)
    unfold lf
    split
    · omega
    · split <;> omega
  · obtain ⟨⟨a, b⟩, c, d⟩ := hL.2 y hy
    unfold rg
    split
    · omega
    · split
      · omega
      · split
        · rename_i hr
          have bn := h.2.1 (i + 1) (by omega)
          have := mul_bd c d (show -40000 ≤ l.getD (i + 1) 0 - y.1 by omega) (show l.getD (i + 1) 0 - y.1 ≤ 40000 by omega)
          omega
        · omega
  · obtain ⟨⟨a, b⟩, c, d⟩ := hL.2 y hy
    unfold ow
    split <;> omega
theorem sums_bd {l : List Int} {m : Nat} (hm : l.length = m + 1) (h : OkB l) {L : List (Int × Int)} (hL : okY (l.getD 0 0) (l.getD m 0) L) (i : Nat) (hi : i ≤ m) (k : Nat) (hk : k ≤ L.length) :
    (-4000000000000 ≤ sL (lf l i) L k ∧ sL (lf l i) L k ≤ 4000000000000) ∧ (-4000000000000 ≤ sL (rg l m i) L k ∧ sL (rg l m i) L k ≤ 4000000000000) ∧ -100000000 ≤ sL (ow l i) L k ∧ sL (ow l i) L k ≤ 100000000 := by
  obtain ⟨a, b, c⟩ := lf_bd hm h hL i hi
  have x := sL_bd a (by omega) k hk; have y := sL_bd b (by omega) k hk; have z := sL_bd c (by omega) k hk
  have := hL.1
  omega
theorem wid_bd {l : List Int} {m : Nat} (hm : l.length = m + 1) (h : OkB l) (i : Nat) (hi : i ≤ m) : (1 ≤ Wb l i ∧ Wb l i ≤ 40000) ∧ 1 ≤ Wn l m i ∧ Wn l m i ≤ 40000 := by
  constructor
  · unfold Wb
    split
    · rename_i hp
      have a := h.2.1 i (by omega); have b := h.2.1 (i - 1) (by omega); have c := h.2.2 (i - 1) (by omega)
      rw [show i - 1 + 1 = i by omega] at c
      omega
    · omega
  · unfold Wn
    split
    · have a := h.2.1 i (by omega); have b := h.2.1 (i + 1) (by omega); have c := h.2.2 i (by omega)
      omega
    · omega
def InRel (l : List Int) (m i : Nat) (L : List (Int × Int)) (u : World) (v7 v8 v9 v12 : Value) (wr : World) : Prop :=
  ∃ k : Nat, k ≤ L.length ∧ v12 = .int .i64 (k : Int) ∧ v7 = .int .i64 (sL (lf l i) L k) ∧ v8 = .int .i64 (sL (rg l m i) L k) ∧ v9 = .int .i64 (sL (ow l i) L k) ∧ Below u.heap.size u wr
def RdRel (l : List Int) (m : Nat) (L : List (Int × Int)) (w : World) (v5 v6 : Value) (wr : World) : Prop :=
  ∃ i : Nat, i ≤ m + 1 ∧ v6 = .int .i64 (i : Int) ∧ wr.ownsRow w.heap.size 63 2 v5 i (brl (rfN l m L) (rfD l m L) i i) ∧ Below w.heap.size w wr
def RdPost (l : List Int) (m : Nat) (L : List (Int × Int)) (w : World) (e : Ending) (w' : World) : Prop :=
  (∃ v : Value, e = .returned v ∧ w'.ownsRow w.heap.size 63 2 v (m + 1) (brl (rfN l m L) (rfD l m L) (m + 1) (m + 1))) ∧ Below w.heap.size w w'
end Go.Proofs.Ytahfliboanphkaa
