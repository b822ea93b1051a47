/-
  What the rows of this seat share: the table of primes of the temperaments, as a row lists it, gives the cells that the walks ask; a world that holds it, for the witnesses.
-/
import Derived.Test.YtnjlifmjjihahaaDoorWhn
import Derived.Test.YtnjlifmjjihahaaDoorCards
import Derived.Test.YtnjlifmjjihahaaDoorTie
import Derived.ProofKit
import Derived.OpenShut
import Derived.Deep.DeepHandedRow
import Derived.Lib.LaidTab
import Derived.Lib.SmallJoins
namespace Go.Proofs.YtnjlifmjjihahaaDoor
open Go.ChangeShapes Go.WideShapes Go.ChangeAt Go.RowKit Go.Joins

theorem own : ownKnob Tryd.prog.godebug = none := by kernel_rfl
theorem gTab : Tryd.prog.globalNamed "agraffe/temper.primes" = some 1 := by kernel_rfl
theorem gTabType : (Tryd.prog.globals[1]?).map (·.type) = some 167 := by kernel_rfl
theorem cellsArr : Tryd.prog.cellsOf 167 = 3 := by kernel_rfl
theorem cellsInt : Tryd.prog.cellsOf 3 = 1 := by kernel_rfl
theorem table {W : World} (h : laidMetH Tryd.prog [("agraffe/temper.primes", Rows.laid_agraffe_temper_primes)] W) : Lib.TabIs Tryd.prog W "agraffe/temper.primes" .i64 [2, 3, 5] :=
  Lib.tabIs_of_head (rest := []) gTab gTabType Tryd.underlying167 Tryd.underlying3 cellsInt cellsArr h
theorem primesOf {W : World} (h : laidMetH Tryd.prog [("agraffe/temper.primes", Rows.laid_agraffe_temper_primes)] W) : PrimesT W :=
  have h0 := (table h).cell gTab 0 (by decide)
  ⟨h0, (table h).cell gTab 1 (by decide), (table h).cell gTab 2 (by decide), World.block_lt_of_cell? W _ h0⟩

/-- a world for the witnesses: the settled one, the table (block 1) holding what its initialiser lays -/
noncomputable def laidWorld (os : Os) : World :=
  { World.holding Tryd.prog os ⟨#[], #[], []⟩ with heap := (World.holding Tryd.prog os ⟨#[], #[], []⟩).heap.modify 1 fun
      | .cells _ t frozen => .cells #[.int .i64 2, .int .i64 3, .int .i64 5] t frozen
      | o => o }

theorem i64_bd {n : Int} (h : (Lit.int .i64 n).wf = true) : -9223372036854775808 ≤ n ∧ n ≤ 9223372036854775807 := by
  have hmin : IntKind.i64.min = -9223372036854775808 := rfl
  have hmax : IntKind.i64.max = 9223372036854775807 := rfl
  simp only [Lit.wf, Bool.and_eq_true, decide_eq_true_eq] at h
  omega
end Go.Proofs.YtnjlifmjjihahaaDoor
