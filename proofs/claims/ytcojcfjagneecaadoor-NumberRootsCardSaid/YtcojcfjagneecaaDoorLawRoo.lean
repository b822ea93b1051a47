/-
  The walk of the law NumberRoots: it returns true, whatever the number and the degree; older memory stays as it was. Its condition: the table of primes reads as it is laid (for awake).
-/
import Derived.Test.YtcojcfjagneecaaDoorRoo
import Derived.Test.YtcojcfjagneecaaDoorAwake
namespace Go.Proofs.YtcojcfjagneecaaDoor
open Go.RowKit

set_option maxRecDepth 100000 in
set_option maxHeartbeats 2000000 in
theorem lawRoots (n k : Int) (w : World) (hp : Primes w) :
    Calls Tryd.prog 5 #[.int .i64 n, .int .i64 k] w fun e w' => e = .returned (.bool true) ∧ Below w.heap.size w w' := by
  by_cases h : rooE n k = 0
  · obtain ⟨h0, h1, h2, h3⟩ := rooE_ok h
    have i1 : inR n 0 1000000000000000000 = true := by unfold inR; simp; omega
    have i2 : inR k 1 12 = true := by unfold inR; simp; omega
    have P := fun u : World => root_any n k u
    rw [h] at P
    have HP := Lib.hid P
    have HQ := Lib.hid (fun u : World => rrootV_any n k u h)
    have HR := Lib.hid hp
    clear P h hp h0 h1 h2 h3
    go_enter Tryd.func5, Tryd.ntmps5
    go_wp2_with fail
    refine (awake_any _ HR.out).mono ?_
    rintro e w1 ⟨rfl, b1⟩
    have B1 : Below w.heap.size w w1 := b1
    have z1 := B1.size
    clear b1
    go_wp2_with fail
    refine (HP.out _).mono ?_
    rintro e w2 ⟨rfl, b2⟩
    have B2 : Below w.heap.size w w2 := below_via B1 b2
    have z2 := B2.size
    clear b2
    go_wp2_with (first | (go_at_call 28; refine (Within_any _ _ _ _).mono ?_; rintro e w2 ⟨rfl, rfl⟩) | (go_at_call 31; refine (HQ.out _).mono ?_; rintro e w2 ⟨rfl, rfl⟩))
    go_ret
    exact ⟨rfl, by assumption⟩
  · have hh : (inR n 0 1000000000000000000 = false) ∨ (inR n 0 1000000000000000000 = true ∧ inR k 1 12 = false) := by
      unfold rooE at h; unfold inR; simp at h ⊢; omega
    have h2 : rooE n k = 2 := by
      unfold rooE at h ⊢; split at h
      · omega
      · rename_i hn; rw [if_neg hn]
    have h3 : rooV n k = 0 := by unfold rooV; rw [if_neg h]
    have P := fun u : World => root_any n k u
    rw [h2, h3] at P
    have HP := Lib.hid P
    have HR := Lib.hid hp
    clear P h hp h2 h3
    rcases hh with i1 | ⟨i1, i2⟩
    all_goals
      go_enter Tryd.func5, Tryd.ntmps5
      go_wp2_with fail
      refine (awake_any _ HR.out).mono ?_
      rintro e w1 ⟨rfl, b1⟩
      have B1 : Below w.heap.size w w1 := b1
      have z1 := B1.size
      clear b1
      go_wp2_with fail
      refine (HP.out _).mono ?_
      rintro e w2 ⟨rfl, b2⟩
      have B2 : Below w.heap.size w w2 := below_via B1 b2
      have z2 := B2.size
      clear b2
      go_wp2_with (go_at_call 28; refine (Within_any _ _ _ _).mono ?_; rintro e w2 ⟨rfl, rfl⟩)
      go_ret
      exact ⟨rfl, by assumption⟩
end Go.Proofs.YtcojcfjagneecaaDoor
