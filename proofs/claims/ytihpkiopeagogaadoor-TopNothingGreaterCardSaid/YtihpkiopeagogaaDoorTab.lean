/-
  What the rows of this seat share: the table of primes, as a row lists it, gives the cells that the walks ask; a world that holds it, for the witnesses; a struct of two numbers opened and shut.
-/
import Derived.Test.YtihpkiopeagogaaDoorPit3
import Derived.Test.YtihpkiopeagogaaDoorCards
import Derived.Test.YtihpkiopeagogaaDoorTie
import Derived.ProofKit
import Derived.OpenShut
import Derived.Deep.DeepHandedRow
import Derived.Lib.LaidTab
import Derived.Lib.SmallJoins
namespace Go.Proofs.YtihpkiopeagogaaDoor
open Go.ChangeShapes Go.WideShapes Go.ChangeAt Go.RowKit Go.Joins

theorem own : ownKnob Tryd.prog.godebug = none := by kernel_rfl
theorem gTab : Tryd.prog.globalNamed "agraffe/number.primes" = some 0 := by kernel_rfl
theorem gTabType : (Tryd.prog.globals[0]?).map (·.type) = some 64 := by kernel_rfl
theorem cells149 : Tryd.prog.cellsOf 64 = 3 := by kernel_rfl
theorem cells111 : Tryd.prog.cellsOf 55 = 1 := by kernel_rfl
theorem cells37 : Tryd.prog.cellsOf 36 = 2 := by kernel_rfl
theorem cells47 : Tryd.prog.cellsOf 40 = 4 := by kernel_rfl
theorem table {W : World} (h : laidMetH Tryd.prog [("agraffe/number.primes", Rows.laid_agraffe_number_primes)] W) : Lib.TabIs Tryd.prog W "agraffe/number.primes" .u64 [2, 3, 5] :=
  Lib.tabIs_of_head (rest := []) gTab gTabType Tryd.underlying64 Tryd.underlying55 cells111 cells149 h
theorem primesOf {W : World} (h : laidMetH Tryd.prog [("agraffe/number.primes", Rows.laid_agraffe_number_primes)] W) : Primes W :=
  ⟨(table h).cell gTab 0 (by decide), (table h).cell gTab 1 (by decide), (table h).cell gTab 2 (by decide)⟩

/-- a world for the witnesses: the settled one, the table (block 0) holding what its initialiser lays -/
noncomputable def laidWorld (os : Os) : World :=
  { World.holding Tryd.prog os ⟨#[], #[], []⟩ with heap := (World.holding Tryd.prog os ⟨#[], #[], []⟩).heap.modify 0 fun
      | .cells _ t frozen => .cells #[.int .u64 2, .int .u64 3, .int .u64 5] t frozen
      | o => o }

theorem i64_bd {n : Int} (h : (Lit.int .i64 n).wf = true) : -9223372036854775808 ≤ n ∧ n ≤ 9223372036854775807 := by
  have hmin : IntKind.i64.min = -9223372036854775808 := rfl
  have hmax : IntKind.i64.max = 9223372036854775807 := rfl
  simp only [Lit.wf, Bool.and_eq_true, decide_eq_true_eq] at h
  omega
end Go.Proofs.YtihpkiopeagogaaDoor
