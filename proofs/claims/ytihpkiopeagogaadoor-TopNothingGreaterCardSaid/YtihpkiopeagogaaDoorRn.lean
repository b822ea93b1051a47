/-
  The reference's naturals: what a row of digits reads as, and the walk of mul: the product, in digits without a leading 0.
-/
import Derived.Test.YtihpkiopeagogaaDoorPow
import Derived.Test.YtihpkiopeagogaaDoorDig
import Derived.Deep.OwnRows
import Derived.Deep.RegionHeld3
namespace Go.Proofs.YtihpkiopeagogaaDoor
open Go.RowKit

def dg (x : Nat) : Value := .int .i64 (x : Int)
theorem info3 : (Tryd.prog.info? 3).map (fun i => (i.zero, i.size, i.bytes)) = some (some (.int .i64 0), 1, 8) := by kernel_rfl
/-- digits as they read -/
def Rd (w : World) (a : Option Addr) (xs : List Nat) : Prop :=
  xs = [] ∨ ∃ g, a = some ⟨g, 0, none⟩ ∧ g < w.heap.size ∧ ∀ j, j < xs.length → w.cell? ⟨g, j, none⟩ = some (dg (xs.getD j 0))
theorem Rd.keep {w w' : World} {a : Option Addr} {xs : List Nat} (h : Rd w a xs) (hb : Below w.heap.size w w') : Rd w' a xs := by
  rcases h with h | ⟨g, h1, h2, h3⟩
  · exact .inl h
  · refine .inr ⟨g, h1, Nat.lt_of_lt_of_le h2 hb.size, fun j hj => ?_⟩
    rw [(bcell hb).1 g j h2]; exact h3 j hj
theorem Rd.grow {w0 w w' : World} {a : Option Addr} {xs : List Nat} (h : Rd w0 a xs) (hb : Below w0.heap.size w0 w') : Rd w' a xs := h.keep hb
theorem Rd.at {w : World} {a : Option Addr} {xs : List Nat} (h : Rd w a xs) (hn : 0 < xs.length) : ∃ g, a = some ⟨g, 0, none⟩ ∧ g < w.heap.size ∧ ∀ j, j < xs.length → w.cell? ⟨g, j, none⟩ = some (.int .i64 ((xs.getD j 0 : Nat) : Int)) := by
  rcases h with h | h
  · subst h; simp at hn
  · exact h
theorem Rd.cell {w : World} {g : Nat} {xs : List Nat} (h : Rd w (some ⟨g, 0, none⟩) xs) (j : Nat) (hj : j < xs.length) : w.cell? ⟨g, j, none⟩ = some (.int .i64 ((xs.getD j 0 : Nat) : Int)) := by
  obtain ⟨g', he, _, hc⟩ := h.at (by omega)
  cases he
  exact hc j hj
theorem Rd.of_own {w : World} {base g n cap m : Nat} {xs : List Nat} (h : w.ownsRow base 3 1 (.slice (some ⟨g, 0, none⟩) n cap) n (xs.map dg)) (hn : xs.length = n) (hm : m ≤ n) : Rd w (some ⟨g, 0, none⟩) (xs.take m) := by
  refine .inr ⟨g, rfl, (own_base h).2, fun j hj => ?_⟩
  rw [List.length_take] at hj
  have h1 := h.cellAt j (by omega)
  rw [h1, List.getElem?_map, List.getElem?_eq_getElem (by omega)]
  simp [dg, List.getD_eq_getElem?_getD, List.getElem?_take, show j < m by omega, List.getElem?_eq_getElem (show j < xs.length by omega)]
theorem dig_cell {w : World} {base g n cap : Nat} {xs : List Nat} (h : w.ownsRow base 3 1 (.slice (some ⟨g, 0, none⟩) n cap) n (xs.map dg)) (hn : xs.length = n) (j : Nat) (hj : j < n) :
    w.cell? ⟨g, j, none⟩ = some (.int .i64 (xs.getD j 0 : Nat)) := by
  have h1 := h.cellAt j (by omega)
  rw [h1, List.getElem?_map, List.getD_eq_getElem?_getD, List.getElem?_eq_getElem (by omega)]; rfl
def RnPost (n : Nat) (L : Nat) (w : World) (e : Ending) (w' : World) : Prop :=
  ∃ (a : Option Addr) (cap : Nat) (zs : List Nat), e = .returned (.slice a zs.length cap) ∧ Rd w' a zs ∧ Dg.Can zs ∧ Dg.val zs = n ∧ zs.length ≤ L ∧ Below w.heap.size w w'

/-- behind i rows -/
def MulOut (la lb : Nat) (a b : List Nat) (g : Nat) (w : World) (vi : Value) (wr : World) : Prop :=
  ∃ (i : Nat) (os : List Nat), i ≤ la ∧ os.length = la + lb + 1 ∧ (∀ x ∈ os, x < Dg.B) ∧ vi = .int .i64 (i : Int) ∧ Dg.val os = Dg.val (a.take i) * Dg.val b ∧
    wr.ownsRow w.heap.size 3 1 (.slice (some ⟨g, 0, none⟩) (la + lb + 1) (la + lb + 1)) (la + lb + 1) (os.map dg) ∧ Below w.heap.size w wr
/-- in row i, behind k steps -/
def MulIn (la lb : Nat) (a b : List Nat) (i g : Nat) (w : World) (vc vk : Value) (wr : World) : Prop :=
  ∃ (k c : Nat) (os : List Nat), k ≤ la + lb ∧ c < Dg.B ∧ os.length = la + lb + 1 ∧ (∀ x ∈ os, x < Dg.B) ∧ vk = .int .i64 (k : Int) ∧ vc = .int .i64 (c : Int) ∧ Dg.val os + Dg.B ^ (i + k) * c = Dg.T a b i k ∧
    wr.ownsRow w.heap.size 3 1 (.slice (some ⟨g, 0, none⟩) (la + lb + 1) (la + lb + 1)) (la + lb + 1) (os.map dg) ∧ Below w.heap.size w wr
/-- behind the trimming down to n digits -/
def MulTrim (N : Nat) (os : List Nat) (g : Nat) (w : World) (vo : Value) (wr : World) : Prop :=
  ∃ (n : Nat), n ≤ N ∧ vo = .slice (some ⟨g, 0, none⟩) n N ∧ Dg.val (os.take n) = Dg.val os ∧ wr = w
end Go.Proofs.YtihpkiopeagogaaDoor
