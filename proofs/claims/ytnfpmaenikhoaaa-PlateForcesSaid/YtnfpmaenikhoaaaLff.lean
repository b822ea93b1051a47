/-
  The law PlateForces: its cases put together.
-/
import Derived.Test.YtnfpmaenikhoaaaLfo
import Derived.Test.YtnfpmaenikhoaaaLfb
import Derived.Test.YtnfpmaenikhoaaaFbd
import Derived.Test.YtnfpmaenikhoaaaFrb
import Derived.Test.YtnfpmaenikhoaaaFm2
import Derived.Test.YtnfpmaenikhoaaaOpl
namespace Go.Proofs.Ytnfpmaenikhoaaa
open Go.RowKit
theorem chkP_wrap (l : List Pf) : IntKind.i64.wrap (chkP l) = chkP l := by
  unfold chkP
  split
  · rfl
  · have : ∀ l : List Pf, chkR l = 0 ∨ chkR l = 2 := by
      intro l
      induction l with
      | nil => exact .inl rfl
      | cons p t ih =>
        show (if badP p then (2 : Int) else chkR t) = 0 ∨ (if badP p then (2 : Int) else chkR t) = 2
        cases badP p
        · simpa using ih
        · exact .inr rfl
    rcases this l with h | h <;> rw [h] <;> rfl
theorem lawForcesA (l : List Pf) (a : Option Addr) (cap : Nat) (t0 t1 t2 : Int) (w : World) (hp : PlAt w a l) (hl : l.length ≤ 9223372036854775807) (_ : -9223372036854775808 ≤ t0 ∧ t0 ≤ 9223372036854775807) (_ : -9223372036854775808 ≤ t1 ∧ t1 ≤ 9223372036854775807) (_ : -9223372036854775808 ≤ t2 ∧ t2 ≤ 9223372036854775807) :
    Calls Try.prog 3 #[.slice a l.length cap, vec t0 t1 t2] w fun e w' => e = .returned (.bool true) ∧ Below w.heap.size w w' := by
  cases hf : (decide (l.length ≤ 20) || (decide (300 < l.length) && decide (l.length ≤ 305)))
  · exact force_A l a cap t0 t1 t2 w hl hp hf
  · by_cases h2 : chkP l = 0
    · have ho := okL_of h2
      have h20 : (l.length : Int) ≤ 20 := by have := ho.1; simp at hf; omega
      cases h3 : beyV 1000000 t0 t1 t2
      · refine force_D l a cap t0 t1 t2 w hl hp h20 h2 _ _ _ _ _ _ 0 _ true (by rw [szB_bey, h3]; rfl) rfl (by intro h; cases h) (Lib.hid fun a cap u h => sumOk_any l a cap u h2 h) (Lib.hid fun a cap u h => momentOk_any t0 t1 t2 l a cap u h2 h (beyV_no h3)) (Lib.hid fun a cap u h => balOk_any l a cap u h2 h) (Lib.hid fun u h => rsum_any l a cap u ho h) (Lib.hid fun u h => ?_) (Lib.hid fun u _ h => rmoment_any l t0 t1 t2 a cap u ho (beyV_no h3) h)
        exact rbal_any l a cap u ho h _ _ _ _ _ _ _ _ rfl rfl (Lib.hid fun u h => rsum_any l a cap u ho h) (Lib.hid fun u h => rmoment_any l 0 0 0 a cap u ho (by unfold Big; omega) h)
      · refine force_D l a cap t0 t1 t2 w hl hp h20 h2 _ _ _ 0 0 0 2 _ false (by rw [szB_bey, h3]; rfl) rfl (fun _ => ⟨rfl, rfl, rfl⟩) (Lib.hid fun a cap u h => sumOk_any l a cap u h2 h) (Lib.hid fun a cap u h => momentBad_any 2 t0 t1 t2 l a cap u (by omega) h (Lib.hid fun u h => forcesAtPlace_any t0 t1 t2 l a cap u h2 h h3)) (Lib.hid fun a cap u h => balOk_any l a cap u h2 h) (Lib.hid fun u h => rsum_any l a cap u ho h) (Lib.hid fun u h => ?_) (Lib.hid fun u hh _ => by cases hh)
        exact rbal_any l a cap u ho h _ _ _ _ _ _ _ _ rfl rfl (Lib.hid fun u h => rsum_any l a cap u ho h) (Lib.hid fun u h => rmoment_any l 0 0 0 a cap u ho (by unfold Big; omega) h)
    · exact force_B l a cap t0 t1 t2 w hl hp hf (chkP l) h2 rfl (chkP_wrap l) (Lib.hid fun a cap u h => sumBad_any (chkP l) l a cap u rfl h2 hl h) (Lib.hid fun a cap u h => momentBad_any (chkP l) t0 t1 t2 l a cap u h2 h (Lib.hid fun u h => forcesAtBad_any (chkP l) t0 t1 t2 l a cap u rfl h2 hl h)) (Lib.hid fun a cap u h => balBad_any (chkP l) l a cap u rfl h2 hl h)
end Go.Proofs.Ytnfpmaenikhoaaa
