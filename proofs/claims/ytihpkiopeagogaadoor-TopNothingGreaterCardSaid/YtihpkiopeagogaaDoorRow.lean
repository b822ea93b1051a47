/-
  Rows of integers in memory as functions, made and written.
-/
import Derived.Test.YtihpkiopeagogaaDoorSys
import Derived.Test.YtihpkiopeagogaaDoorBel
import Derived.Laws.MakeOwn
import Derived.Test.YtihpkiopeagogaaDoorRn
namespace Go.Proofs.YtihpkiopeagogaaDoor
open Go.RowKit
def rowA (n : Nat) (s : Nat → Int) : Array Value := ((List.range n).map fun j => Value.int .i64 (s j)).toArray
theorem rowA_get {n : Nat} {s : Nat → Int} {j : Nat} (h : j < n) : (rowA n s)[j]? = some (.int .i64 (s j)) := by simp [rowA, h]
theorem rowA_set {n : Nat} {s : Nat → Int} {j : Nat} (v : Int) (h : j < n) : (rowA n s).setIfInBounds j (.int .i64 v) = rowA n (upd s j v) := by
  apply Array.ext'
  rw [Array.toList_setIfInBounds]
  refine List.ext_getElem (by simp [rowA]) (fun i h1 h2 => ?_)
  simp only [rowA]
  simp only [List.getElem_set, List.getElem_map, List.getElem_range]
  by_cases hij : j = i
  · subst hij; rw [if_pos rfl, upd_same]
  · rw [if_neg hij, upd_other _ _ (by omega)]
theorem rowA_zero (n : Nat) : madeCells #[Value.int .i64 0] n = rowA n (fun _ => 0) := by
  apply Array.ext'
  rw [toList_madeCells_one]
  refine List.ext_getElem (by simp [rowA]) (fun i h1 h2 => ?_)
  simp [rowA]
end Go.Proofs.YtihpkiopeagogaaDoor
