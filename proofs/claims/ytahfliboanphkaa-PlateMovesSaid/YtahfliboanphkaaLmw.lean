/-
  The law PlateMoves: its cases put together.
-/
import Derived.Test.YtahfliboanphkaaLmb
import Derived.Test.YtahfliboanphkaaShf
import Derived.Test.YtahfliboanphkaaFm2
import Derived.Test.YtahfliboanphkaaOpl
namespace Go.Proofs.Ytahfliboanphkaa
open Go.RowKit
theorem lawMovesA (l : List Pf) (a : Option Addr) (cap : Nat) (t0 t1 t2 : Int) (w : World) (hp : PlAt w a l) (hl : l.length ≤ 9223372036854775807) (_ : -9223372036854775808 ≤ t0 ∧ t0 ≤ 9223372036854775807) (_ : -9223372036854775808 ≤ t1 ∧ t1 ≤ 9223372036854775807) (_ : -9223372036854775808 ≤ t2 ∧ t2 ≤ 9223372036854775807) :
    Calls Try.prog 4 #[.slice a l.length cap, vec t0 t1 t2] w fun e w' => e = .returned (.bool true) ∧ Below w.heap.size w w' := by
  cases hf : (decide (l.length ≤ 20) || (decide (300 < l.length) && decide (l.length ≤ 305)))
  · exact lmv_A l a cap t0 t1 t2 w hl hp hf
  · by_cases h2 : chkP l = 0
    · have ho := okL_of h2
      rcases mvE_two (b0 := t0) (b1 := t1) (b2 := t2) l with hm | hm
      · have h3 := chkP_map ho hm
        have hs := sum_map t0 t1 t2 l
        have hle : (l.map (mv t0 t1 t2)).length = l.length := List.length_map _
        refine lmv_D l a cap t0 t1 t2 (sA Pf.p l l.length) (sA Pf.q l l.length) (sA Pf.r l l.length) w hl hp _ _ hf h2 hm rfl (Lib.hid fun a cap u h => ?_) (Lib.hid fun a cap u h => ?_) (Lib.hid fun u h => rsum_any l a cap u ho h) (Lib.hid fun u h => rbal_any l a cap u ho h _ _ _ _ _ _ _ _ rfl rfl (Lib.hid fun u h => rsum_any l a cap u ho h) (Lib.hid fun u h => rmoment_any l 0 0 0 a cap u ho (by unfold Big; omega) h))
        · have h := sumOk_any _ a cap u h3 h
          rw [hle, hs.1, hs.2.1, hs.2.2] at h
          exact h
        · have h := balOk_any _ a cap u h3 h
          rw [bal_map, hle] at h
          exact h
      · exact lmv_C l a cap t0 t1 t2 w hl hp hf h2 hm
    · exact lmv_B l a cap t0 t1 t2 (chkP l) w hl hp hf h2 rfl (chkP_wrap l)
end Go.Proofs.Ytahfliboanphkaa
