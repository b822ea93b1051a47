/-
  The first of several errors, and the errors of ranges: cmp.Or, whole.RangeError and what calls it. No condition but the length of the list.
-/
import Derived.Test.YtnjlifmjjihahaaDoorBase
namespace Go.Proofs.YtnjlifmjjihahaaDoor
open Go.RowKit
/-- the first number that is not 0 -/
def orV : List Int → Int
  | [] => 0
  | x :: l => if x = 0 then orV l else x
theorem orV_drop {l : List Int} {k : Nat} (h : k < l.length) : orV (l.drop k) = if l[k] = 0 then orV (l.drop (k + 1)) else l[k] := by
  rw [List.drop_eq_getElem_cons h]; rfl
/-- numbers in a row that lies from a block's head on -/
def RowAt (w : World) (b : Nat) (l : List Int) : Prop := ∀ j (h : j < l.length), w.cell? ⟨b, j, none⟩ = some (.int .i64 l[j])
theorem RowAt.keep {w w' : World} {b : Nat} {l : List Int} (h : RowAt w b l) (hb : Below w.heap.size w w') (hl : b < w.heap.size) : RowAt w' b l := fun j hj =>
  (hb.cell (p := ⟨b, j, none⟩) hl).trans (h j hj)
theorem RowAt.of_box {w : World} {b : Nat} {l : List Int} {t : TypeId} (h : Box w b (l.map (Value.int .i64)).toArray t) : RowAt w b l := fun j hj => by
  rw [h.cell j]; simp [hj]
set_option maxHeartbeats 800000 in
theorem or_any (b cap : Nat) (l : List Int) (w : World) (hl : l.length ≤ 1000) (hc : RowAt w b l) :
    Calls Tryd.prog 70 #[.slice (some ⟨b, 0, none⟩) l.length cap] w fun e w' => e = .returned (.int .i64 (orV l)) ∧ w' = w := by
  have HC := Lib.hid hc; clear hc
  go_enter Tryd.func70, Tryd.ntmps70
  go_wp2
  go_loop [8] (fun i => ∃ k : Nat, k ≤ l.length ∧ i = .int .i64 k ∧ Hid (orV l = orV (l.drop k))) (fun i => l.length - (intOf i).toNat)
  case atStart => exact ⟨0, Nat.zero_le _, rfl, Lib.hid rfl⟩
  case round =>
    obtain ⟨k, hk, rfl, HO⟩ := hrel
    by_cases hlt : k < l.length
    · have hck := HC.out k hlt
      have HD := Lib.hid (orV_drop hlt)
      have HE := Lib.hid (show ∃ x, l[k] = x from ⟨_, rfl⟩)
      obtain ⟨x, hx⟩ := HE.out
      rw [hx] at hck
      have HX := Lib.hid hx; clear hx HE
      by_cases hz : x = 0
      · subst hz
        go_wp2
        go_round
        case rel => exact ⟨k + 1, by omega, by go_num, Lib.hid (by rw [HO.out, HD.out, HX.out]; simp)⟩
        case measure => simp [intOf]; omega
      · have hz' : (x != 0) = true := by simpa using hz
        have HZ := Lib.hid hz; clear hz
        go_wp2
        go_ret
        exact ⟨ret_int (by rw [HO.out, HD.out, HX.out]; simp [HZ.out]), rfl⟩
    · obtain rfl : k = l.length := by omega
      go_wp2
      go_ret
      exact ⟨ret_int (by rw [HO.out]; simp [orV]), rfl⟩
/-- the error of a number that has to be from lo to hi -/
def rgE (n lo hi : Int) : Int := if inR n lo hi then 0 else 2
set_option maxHeartbeats 400000 in
theorem rangeError_any (n lo hi : Int) (w : World) :
    Calls Tryd.prog 71 #[.int .i64 n, .int .i64 lo, .int .i64 hi] w fun e w' => e = .returned (.int .i64 (rgE n lo hi)) ∧ w' = w := by
  cases hr : inR n lo hi
  all_goals
    have HR := Lib.hid hr
    go_enter Tryd.func71, Tryd.ntmps71
    go_wp2_with (go_at_call 110; refine (between_any _ _ _ _).mono ?_; rintro e w' ⟨rfl, rfl⟩)
    go_ret
    exact ⟨ret_int (by unfold rgE; rw [HR.out]; rfl), rfl⟩
theorem noteErr_any (n : Int) (w : World) :
    Calls Tryd.prog 75 #[.int .i64 n] w fun e w' => e = .returned (.int .i64 (rgE n 0 87)) ∧ w' = w := by
  go_enter Tryd.func75, Tryd.ntmps75
  go_wp2_with (go_at_call 71; refine (rangeError_any _ _ _ _).mono ?_; rintro e w' ⟨rfl, rfl⟩)
  go_ret
  exact ⟨rfl, rfl⟩
theorem tnoteErr_any (n : Int) (w : World) :
    Calls Tryd.prog 128 #[.int .i64 n] w fun e w' => e = .returned (.int .i64 (rgE n 0 87)) ∧ w' = w := by
  go_enter Tryd.func128, Tryd.ntmps128
  go_wp2_with (go_at_call 71; refine (rangeError_any _ _ _ _).mono ?_; rintro e w' ⟨rfl, rfl⟩)
  go_ret
  exact ⟨rfl, rfl⟩
theorem partErr_any (n : Int) (w : World) :
    Calls Tryd.prog 127 #[.int .i64 n] w fun e w' => e = .returned (.int .i64 (rgE n 1 16)) ∧ w' = w := by
  go_enter Tryd.func127, Tryd.ntmps127
  go_wp2_with (go_at_call 71; refine (rangeError_any _ _ _ _).mono ?_; rintro e w' ⟨rfl, rfl⟩)
  go_ret
  exact ⟨rfl, rfl⟩
theorem dayErr_any (n : Int) (w : World) :
    Calls Tryd.prog 77 #[.int .i64 n] w fun e w' => e = .returned (.int .i64 (rgE n 0 100000)) ∧ w' = w := by
  go_enter Tryd.func77, Tryd.ntmps77
  go_wp2_with (go_at_call 71; refine (rangeError_any _ _ _ _).mono ?_; rintro e w' ⟨rfl, rfl⟩)
  go_ret
  exact ⟨rfl, rfl⟩
theorem forceErr_any (n : Int) (w : World) :
    Calls Tryd.prog 78 #[.int .i64 n] w fun e w' => e = .returned (.int .i64 (rgE n 0 100000)) ∧ w' = w := by
  go_enter Tryd.func78, Tryd.ntmps78
  go_wp2_with (go_at_call 71; refine (rangeError_any _ _ _ _).mono ?_; rintro e w' ⟨rfl, rfl⟩)
  go_ret
  exact ⟨rfl, rfl⟩
theorem humErr_any (n : Int) (w : World) :
    Calls Tryd.prog 88 #[.int .i64 n] w fun e w' => e = .returned (.int .i64 (rgE n 0 1000)) ∧ w' = w := by
  go_enter Tryd.func88, Tryd.ntmps88
  go_wp2_with (go_at_call 71; refine (rangeError_any _ _ _ _).mono ?_; rintro e w' ⟨rfl, rfl⟩)
  go_ret
  exact ⟨rfl, rfl⟩
end Go.Proofs.YtnjlifmjjihahaaDoor
