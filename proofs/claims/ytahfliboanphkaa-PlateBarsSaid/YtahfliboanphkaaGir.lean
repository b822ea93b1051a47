/-
  Girders: whether they and their loads are right.
-/
import Derived.Test.YtahfliboanphkaaGld
import Derived.Test.YtahfliboanphkaaRbe
namespace Go.Proofs.Ytahfliboanphkaa
open Go.RowKit
abbrev gir (A B M : Int) : Value := .agg #[.int .i64 A, .int .i64 B, .int .i64 M]
def okG (A B M : Int) : Bool := inB A 20000 && (inB B 20000 && inR M 0 1000000000000)
def chkG (A B M : Int) : Int := if okG A B M then (if A < B then 0 else 9) else 2
theorem chkG_ok {A B M : Int} (h : chkG A B M = 0) : (-20000 ≤ A ∧ A ≤ 20000) ∧ (-20000 ≤ B ∧ B ≤ 20000) ∧ A < B ∧ 0 ≤ M ∧ M ≤ 1000000000000 := by
  unfold chkG at h
  split at h
  · rename_i h1
    unfold okG inB inR at h1; simp at h1
    split at h
    · omega
    · omega
  · omega
set_option maxRecDepth 100000 in
set_option maxHeartbeats 1600000 in
theorem chkG_any (A B M : Int) (w : World) :
    Calls Try.prog 85 #[gir A B M] w fun e w' => e = .returned (.int .i64 (chkG A B M)) ∧ Below w.heap.size w w' := by
  cases h0 : inB A 20000 <;> cases h1 : inB B 20000 <;> cases h2 : inR M 0 1000000000000 <;> by_cases h3 : A < B
  all_goals
    have F := Lib.hid (show chkG A B M = if inB A 20000 && (inB B 20000 && inR M 0 1000000000000) then (if A < B then 0 else 9) else 2 from rfl)
    rw [h0, h1, h2] at F
    go_enter Try.func85, Try.ntmps85
    go_wp2_with (first | (go_at_call 64; refine (within_any _ _ _ (by omega) (by omega)).mono ?_; rintro e w' ⟨rfl, rfl⟩) | (go_at_call 59; refine (between_any _ _ _ _).mono ?_; rintro e w' ⟨rfl, rfl⟩))
    go_ret
    exact ⟨ret_int (by rw [F.out]; simp [h3]), by (repeat' (first | (with_reducible exact Below.refl _ _) | (with_reducible assumption) | (with_reducible refine Below.drew ?_) | (with_reducible refine below_drewN ?_ _) | (with_reducible refine Below.setCell ?_ ?_ _) | (with_reducible refine Below.alloc ?_ ?_ _) | go_size | omega))⟩
set_option maxRecDepth 100000 in
set_option maxHeartbeats 1600000 in
theorem rchkG_any (A B M : Int) (w : World) :
    Calls Try.prog 66 #[gir A B M] w fun e w' => e = .returned (.int .i64 (chkG A B M)) ∧ Below w.heap.size w w' := by
  cases h0 : inB A 20000 <;> cases h1 : inB B 20000 <;> cases h2 : inR M 0 1000000000000 <;> by_cases h3 : A < B
  all_goals
    have F := Lib.hid (show chkG A B M = if inB A 20000 && (inB B 20000 && inR M 0 1000000000000) then (if A < B then 0 else 9) else 2 from rfl)
    rw [h0, h1, h2] at F
    have h0' : inR A (-20000) 20000 = inB A 20000 := rfl
    have h1' : inR B (-20000) 20000 = inB B 20000 := rfl
    rw [h0] at h0'; rw [h1] at h1'
    go_enter Try.func66, Try.ntmps66
    go_wp2_with (go_at_call 32; refine (Within_any _ _ _ _).mono ?_; rintro e w' ⟨rfl, rfl⟩)
    go_ret
    exact ⟨ret_int (by rw [F.out]; simp [h3]), by (repeat' (first | (with_reducible exact Below.refl _ _) | (with_reducible assumption) | (with_reducible refine Below.drew ?_) | (with_reducible refine below_drewN ?_ _) | (with_reducible refine Below.setCell ?_ ?_ _) | (with_reducible refine Below.alloc ?_ ?_ _) | go_size | omega))⟩
def badY (f t : Int) (y : Int × Int) : Bool := !(inR y.1 f t && inB y.2 1000000)
def chkY (f t : Int) : List (Int × Int) → Int
  | [] => 0
  | y :: r => if badY f t y then 2 else chkY f t r
def chkL (f t : Int) (L : List (Int × Int)) : Int := if 100 < L.length then 8 else chkY f t L
theorem chkY_go {f t : Int} {L : List (Int × Int)} {k : Nat} (hk : k < L.length) (h : badY f t L[k] = false) : chkY f t (L.drop (k + 1)) = chkY f t (L.drop k) := by
  rw [List.drop_eq_getElem_cons hk]
  show _ = (if badY f t L[k] then 2 else chkY f t (L.drop (k + 1)))
  rw [h]; rfl
theorem chkY_bad {f t : Int} {L : List (Int × Int)} {k : Nat} (hk : k < L.length) (h : badY f t L[k] = true) : chkY f t (L.drop k) = 2 := by
  rw [List.drop_eq_getElem_cons hk]
  show (if badY f t L[k] then 2 else chkY f t (L.drop (k + 1))) = 2
  rw [h]; rfl
theorem chkY_no {f t : Int} : ∀ {L : List (Int × Int)}, chkY f t L = 0 → ∀ y ∈ L, badY f t y = false
  | [], _, y, hy => by simp at hy
  | q :: r, h, y, hy => by
    unfold chkY at h
    cases hq : badY f t q
    · rw [hq] at h
      simp at h
      rcases List.mem_cons.1 hy with rfl | hy
      · exact hq
      · exact chkY_no h y hy
    · rw [hq] at h; simp at h
def okY (f t : Int) (L : List (Int × Int)) : Prop := L.length ≤ 100 ∧ ∀ y ∈ L, (f ≤ y.1 ∧ y.1 ≤ t) ∧ -1000000 ≤ y.2 ∧ y.2 ≤ 1000000
theorem okY_of {f t : Int} {L : List (Int × Int)} (h : chkL f t L = 0) : okY f t L := by
  unfold chkL at h
  split at h
  · omega
  · refine ⟨by omega, fun y hy => ?_⟩
    have := chkY_no h y hy
    unfold badY inR inB at this
    simp at this
    omega
theorem badY_eq (f t x y : Int) : badY f t (x, y) = !(inR x f t && inB y 1000000) := rfl
def LcRel (f t : Int) (L : List (Int × Int)) (w : World) (v : Value) (wr : World) : Prop :=
  ∃ k : Nat, k ≤ L.length ∧ v = .int .i64 (k : Int) ∧ chkY f t (L.drop k) = chkY f t L ∧ Below w.heap.size w wr
set_option maxRecDepth 100000 in
set_option maxHeartbeats 1600000 in
theorem chkL_any (f t : Int) (L : List (Int × Int)) (a : Option Addr) (cap : Nat) (w : World) (hl : L.length ≤ 9223372036854775807) (hp : LdAt w a L) :
    Calls Try.prog 54 #[.slice a L.length cap, .int .i64 f, .int .i64 t] w fun e w' => e = .returned (.int .i64 (chkL f t L)) ∧ Below w.heap.size w w' := by
  by_cases h1 : (100 : Int) < L.length
  · have F := Lib.hid (show chkL f t L = 8 by unfold chkL; rw [if_pos (by omega)])
    go_enter Try.func54, Try.ntmps54
    go_wp2_with fail
    go_ret
    exact ⟨ret_int (by rw [F.out]), by (repeat' (first | (with_reducible exact Below.refl _ _) | (with_reducible assumption) | (with_reducible refine Below.drew ?_) | (with_reducible refine below_drewN ?_ _) | (with_reducible refine Below.setCell ?_ ?_ _) | (with_reducible refine Below.alloc ?_ ?_ _) | go_size | omega))⟩
  · have F := Lib.hid (show chkL f t L = chkY f t L by unfold chkL; rw [if_neg (by omega)])
    have HP := Lib.hid hp; clear hp
    go_enter Try.func54, Try.ntmps54
    go_wp2_with fail
    go_loopw [14] (LcRel f t L w) (fun i _ => L.length - (intOf i).toNat)
    case atStart => exact ⟨0, by omega, rfl, by rw [List.drop_zero], Below.refl _ _⟩
    case round =>
      obtain ⟨k, hk, rfl, hd, hB⟩ := hrel
      have HD := Lib.hid hd; clear hd
      have zr := hB.size
      by_cases hkl : k < L.length
      · rcases HP.out.keep hB with h0 | ⟨b, o, rfl, hbl, hc⟩
        · rw [h0] at hkl; simp at hkl
        obtain ⟨c0, c1⟩ := hc k hkl
        clear hc
        rcases hlk : L[k] with ⟨x, y⟩
        rw [hlk] at c0 c1
        have HV := Lib.hid hlk; clear hlk
        dsimp only at c0 c1
        have hby := (show badY f t L[k] = !(inR x f t && inB y 1000000) by rw [HV.out]; rfl)
        have e2 : inR y (-1000000) 1000000 = inB y 1000000 := rfl
        cases hb1 : inR x f t <;> cases hb2 : inB y 1000000
        all_goals
          rw [hb1, hb2] at hby
          rw [hb2] at e2
          have HBY := Lib.hid hby
          clear hby
          go_wp2_with (first | (go_at_call 64; refine (within_any _ _ _ (by omega) (by omega)).mono ?_; rintro e w' ⟨rfl, rfl⟩) | (go_at_call 59; refine (between_any _ _ _ _).mono ?_; rintro e w' ⟨rfl, rfl⟩))
        · go_ret
          exact ⟨ret_int (by rw [F.out, ← HD.out, chkY_bad hkl HBY.out]), by (repeat' (first | (with_reducible exact Below.refl _ _) | (with_reducible assumption) | (with_reducible refine Below.drew ?_) | (with_reducible refine below_drewN ?_ _) | (with_reducible refine Below.setCell ?_ ?_ _) | (with_reducible refine Below.alloc ?_ ?_ _) | go_size | omega))⟩
        · go_ret
          exact ⟨ret_int (by rw [F.out, ← HD.out, chkY_bad hkl HBY.out]), by (repeat' (first | (with_reducible exact Below.refl _ _) | (with_reducible assumption) | (with_reducible refine Below.drew ?_) | (with_reducible refine below_drewN ?_ _) | (with_reducible refine Below.setCell ?_ ?_ _) | (with_reducible refine Below.alloc ?_ ?_ _) | go_size | omega))⟩
        · go_ret
          exact ⟨ret_int (by rw [F.out, ← HD.out, chkY_bad hkl HBY.out]), by (repeat' (first | (with_reducible exact Below.refl _ _) | (with_reducible assumption) | (with_reducible refine Below.drew ?_) | (with_reducible refine below_drewN ?_ _) | (with_reducible refine Below.setCell ?_ ?_ _) | (with_reducible refine Below.alloc ?_ ?_ _) | go_size | omega))⟩
        · go_roundw
          case rel => exact ⟨k + 1, by omega, by simp, by rw [chkY_go hkl HBY.out]; exact HD.out, by (repeat' (first | (with_reducible exact Below.refl _ _) | (with_reducible assumption) | (with_reducible refine Below.drew ?_) | (with_reducible refine below_drewN ?_ _) | (with_reducible refine Below.setCell ?_ ?_ _) | (with_reducible refine Below.alloc ?_ ?_ _) | go_size | omega))⟩
          case measure => simp [intOf]; omega
      · obtain rfl : k = L.length := by omega
        go_wp2_with fail
        go_ret
        exact ⟨ret_int (by rw [F.out, ← HD.out, List.drop_length]; rfl), hB⟩
set_option maxRecDepth 100000 in
set_option maxHeartbeats 1600000 in
theorem rchkL_any (f t : Int) (L : List (Int × Int)) (a : Option Addr) (cap : Nat) (w : World) (hl : L.length ≤ 9223372036854775807) (hp : LdAt w a L) :
    Calls Try.prog 29 #[.slice a L.length cap, .int .i64 f, .int .i64 t] w fun e w' => e = .returned (.int .i64 (chkL f t L)) ∧ Below w.heap.size w w' := by
  by_cases h1 : (100 : Int) < L.length
  · have F := Lib.hid (show chkL f t L = 8 by unfold chkL; rw [if_pos (by omega)])
    go_enter Try.func29, Try.ntmps29
    go_wp2_with fail
    go_ret
    exact ⟨ret_int (by rw [F.out]), by (repeat' (first | (with_reducible exact Below.refl _ _) | (with_reducible assumption) | (with_reducible refine Below.drew ?_) | (with_reducible refine below_drewN ?_ _) | (with_reducible refine Below.setCell ?_ ?_ _) | (with_reducible refine Below.alloc ?_ ?_ _) | go_size | omega))⟩
  · have F := Lib.hid (show chkL f t L = chkY f t L by unfold chkL; rw [if_neg (by omega)])
    have HP := Lib.hid hp; clear hp
    go_enter Try.func29, Try.ntmps29
    go_wp2_with fail
    go_loopw [7] (LcRel f t L w) (fun i _ => L.length - (intOf i).toNat)
    case atStart => exact ⟨0, by omega, rfl, by rw [List.drop_zero], Below.refl _ _⟩
    case round =>
      obtain ⟨k, hk, rfl, hd, hB⟩ := hrel
      have HD := Lib.hid hd; clear hd
      have zr := hB.size
      by_cases hkl : k < L.length
      · rcases HP.out.keep hB with h0 | ⟨b, o, rfl, hbl, hc⟩
        · rw [h0] at hkl; simp at hkl
        obtain ⟨c0, c1⟩ := hc k hkl
        clear hc
        rcases hlk : L[k] with ⟨x, y⟩
        rw [hlk] at c0 c1
        have HV := Lib.hid hlk; clear hlk
        dsimp only at c0 c1
        have hby := (show badY f t L[k] = !(inR x f t && inB y 1000000) by rw [HV.out]; rfl)
        have e2 : inR y (-1000000) 1000000 = inB y 1000000 := rfl
        cases hb1 : inR x f t <;> cases hb2 : inB y 1000000
        all_goals
          rw [hb1, hb2] at hby
          rw [hb2] at e2
          have HBY := Lib.hid hby
          clear hby
          go_wp2_with (go_at_call 32; refine (Within_any _ _ _ _).mono ?_; rintro e w' ⟨rfl, rfl⟩)
        · go_ret
          exact ⟨ret_int (by rw [F.out, ← HD.out, chkY_bad hkl HBY.out]), by (repeat' (first | (with_reducible exact Below.refl _ _) | (with_reducible assumption) | (with_reducible refine Below.drew ?_) | (with_reducible refine below_drewN ?_ _) | (with_reducible refine Below.setCell ?_ ?_ _) | (with_reducible refine Below.alloc ?_ ?_ _) | go_size | omega))⟩
        · go_ret
          exact ⟨ret_int (by rw [F.out, ← HD.out, chkY_bad hkl HBY.out]), by (repeat' (first | (with_reducible exact Below.refl _ _) | (with_reducible assumption) | (with_reducible refine Below.drew ?_) | (with_reducible refine below_drewN ?_ _) | (with_reducible refine Below.setCell ?_ ?_ _) | (with_reducible refine Below.alloc ?_ ?_ _) | go_size | omega))⟩
        · go_ret
          exact ⟨ret_int (by rw [F.out, ← HD.out, chkY_bad hkl HBY.out]), by (repeat' (first | (with_reducible exact Below.refl _ _) | (with_reducible assumption) | (with_reducible refine Below.drew ?_) | (with_reducible refine below_drewN ?_ _) | (with_reducible refine Below.setCell ?_ ?_ _) | (with_reducible refine Below.alloc ?_ ?_ _) | go_size | omega))⟩
        · go_roundw
          case rel => exact ⟨k + 1, by omega, by simp, by rw [chkY_go hkl HBY.out]; exact HD.out, by (repeat' (first | (with_reducible exact Below.refl _ _) | (with_reducible assumption) | (with_reducible refine Below.drew ?_) | (with_reducible refine below_drewN ?_ _) | (with_reducible refine Below.setCell ?_ ?_ _) | (with_reducible refine Below.alloc ?_ ?_ _) | go_size | omega))⟩
          case measure => simp [intOf]; omega
      · obtain rfl : k = L.length := by omega
        go_wp2_with fail
        go_ret
        exact ⟨ret_int (by rw [F.out, ← HD.out, List.drop_length]; rfl), hB⟩
end Go.Proofs.Ytahfliboanphkaa
