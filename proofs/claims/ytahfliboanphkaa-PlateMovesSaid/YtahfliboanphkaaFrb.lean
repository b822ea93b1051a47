/-
  The reference of Balanced.
-/
import Derived.Test.YtahfliboanphkaaFap
namespace Go.Proofs.Ytahfliboanphkaa
open Go.RowKit
set_option maxRecDepth 100000 in
set_option maxHeartbeats 1600000 in
theorem rbal_any (l : List Pf) (a : Option Addr) (cap : Nat) (w : World) (ho : okL l) (hp : PlAt w a l) (A0 A1 A2 C0 C1 C2 : Int) (b0 b1 : Bool) (hb0 : (A0 == 0 && (A1 == 0 && A2 == 0)) = b0) (hb1 : (C0 == 0 && (C1 == 0 && C2 == 0)) = b1)
    (CS : Hid (∀ u : World, PlAt u a l → Calls Try.prog 15 #[.slice a l.length cap] u fun e w' => e = .returned (vec A0 A1 A2) ∧ Below u.heap.size u w'))
    (CM : Hid (∀ u : World, PlAt u a l → Calls Try.prog 16 #[.slice a l.length cap, vec 0 0 0] u fun e w' => e = .returned (vec C0 C1 C2) ∧ Below u.heap.size u w')) :
    Calls Try.prog 22 #[.slice a l.length cap] w fun e w' => e = .returned (.bool (b0 && b1)) ∧ Below w.heap.size w w' := by
  have HP := Lib.hid hp
  have EQS := fun v => eqArr3 A0 A1 A2 0 0 0 v
  have EQM := fun v => eqArr3 C0 C1 C2 0 0 0 v
  rw [hb0] at EQS; rw [hb1] at EQM
  clear hp ho hb0 hb1
  cases b0
  · go_enter Try.func22, Try.ntmps22
    go_wp2_with fail
    refine (CS.out _ (HP.out.keep (by (repeat' (first | (with_reducible exact Below.refl _ _) | (with_reducible assumption) | (with_reducible refine Below.drew ?_) | (with_reducible refine below_drewN ?_ _) | (with_reducible refine Below.setCell ?_ ?_ _) | (with_reducible refine Below.alloc ?_ ?_ _) | go_size | omega))))).mono ?_
    rintro e w1 ⟨rfl, h⟩
    have B1 : Below w.heap.size w w1 := below_via (by (repeat' (first | (with_reducible exact Below.refl _ _) | (with_reducible assumption) | (with_reducible refine Below.drew ?_) | (with_reducible refine below_drewN ?_ _) | (with_reducible refine Below.setCell ?_ ?_ _) | (with_reducible refine Below.alloc ?_ ?_ _) | go_size | omega))) h
    clear h
    go_wp2_with fail
    go_ret
    exact ⟨by simp, B1⟩
  · go_enter Try.func22, Try.ntmps22
    go_wp2_with fail
    refine (CS.out _ (HP.out.keep (by (repeat' (first | (with_reducible exact Below.refl _ _) | (with_reducible assumption) | (with_reducible refine Below.drew ?_) | (with_reducible refine below_drewN ?_ _) | (with_reducible refine Below.setCell ?_ ?_ _) | (with_reducible refine Below.alloc ?_ ?_ _) | go_size | omega))))).mono ?_
    rintro e w1 ⟨rfl, h⟩
    have B1 : Below w.heap.size w w1 := below_via (by (repeat' (first | (with_reducible exact Below.refl _ _) | (with_reducible assumption) | (with_reducible refine Below.drew ?_) | (with_reducible refine below_drewN ?_ _) | (with_reducible refine Below.setCell ?_ ?_ _) | (with_reducible refine Below.alloc ?_ ?_ _) | go_size | omega))) h
    clear h
    go_wp2_with fail
    refine (CM.out _ (HP.out.keep B1)).mono ?_
    rintro e w2 ⟨rfl, h⟩
    have B2 : Below w.heap.size w w2 := below_via B1 h
    clear h
    go_wp2_with fail
    go_ret
    exact ⟨by simp, B2⟩
end Go.Proofs.Ytahfliboanphkaa
