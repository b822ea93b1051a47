/-
  The walks of the references of pitches: IsPitch.
-/
import Derived.Test.YtihpkiopeagogaaDoorPit2
namespace Go.Proofs.YtihpkiopeagogaaDoor
open Go.RowKit

theorem ridx0 (x y z : Value) (w : World) : (Instr.index 51 (.agg #[x, y, z]) (.int .i64 0)).run Tryd.prog w = .ok x w := by kernel_rfl
theorem ridx1 (x y z : Value) (w : World) : (Instr.index 51 (.agg #[x, y, z]) (.int .i64 1)).run Tryd.prog w = .ok y w := by kernel_rfl
theorem ridx2 (x y z : Value) (w : World) : (Instr.index 51 (.agg #[x, y, z]) (.int .i64 2)).run Tryd.prog w = .ok z w := by kernel_rfl
end Go.Proofs.YtihpkiopeagogaaDoor
