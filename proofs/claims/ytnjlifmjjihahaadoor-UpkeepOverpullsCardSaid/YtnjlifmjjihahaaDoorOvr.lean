/-
  The reference's tables of overpulls: CheckOverpull, OverpullAt. No condition but the length.
-/
import Derived.Test.YtnjlifmjjihahaaDoorOva
namespace Go.Proofs.YtnjlifmjjihahaaDoor
open Go Go.RowKit
theorem isNote6_any (n : Int) (w : World) : Calls Tryd.prog 21 #[.int .i64 n] w fun e w' => e = .returned (.bool (inR n 0 87)) ∧ w' = w := by
  go_enter Tryd.func21, Tryd.ntmps21
  go_wp2_with (go_at_call 44; refine (Within_any _ _ _ _).mono ?_; rintro e w' ⟨rfl, rfl⟩)
  go_ret
  exact ⟨rfl, rfl⟩
theorem roE_if (f t p : Int) : roE f t p = if inR f 0 87 = true ∧ inR t 0 87 = true ∧ inR p 0 500 = true then 0 else 2 := by
  unfold roE rgE
  cases inR f 0 87 <;> cases inR t 0 87 <;> cases inR p 0 500 <;> rfl
set_option maxRecDepth 100000 in
set_option maxHeartbeats 3200000 in
theorem refCheckOverpull_any (l : List (Int × Int × Int)) (a : Option Addr) (cap : Nat) (w : World) (hlen : l.length ≤ 1000) (hs : OvAt w a l) :
    Calls Tryd.prog 19 #[.slice a l.length cap] w fun e w' => e = .returned (.int .i64 (ovE l)) ∧ Below w.heap.size w w' := by
  have HS := Lib.hid hs; clear hs
  by_cases h20 : 20 < l.length
  · have HE := Lib.hid (show ovE l = 8 by unfold ovE; rw [if_pos h20])
    go_enter Tryd.func19, Tryd.ntmps19
    go_wp2
    go_ret
    exact ⟨ret_int (by rw [HE.out]), by (repeat' (first | (with_reducible exact Below.refl _ _) | (with_reducible assumption) | (with_reducible refine Below.drew ?_) | (with_reducible refine below_drewN ?_ _) | (with_reducible refine Below.setCell ?_ ?_ _) | (with_reducible refine Below.alloc ?_ ?_ _) | go_size | omega))⟩
  have HE := Lib.hid (show ovE l = ovF (pvo l 0) (l.drop 0) by unfold ovE; rw [if_neg h20]; rfl)
  go_enter Tryd.func19, Tryd.ntmps19
  go_wp2
  go_loopw [3] (fun i wr => ∃ k : Nat, k ≤ l.length ∧ i = .int .i64 k ∧ Hid (ovE l = ovF (pvo l k) (l.drop k)) ∧ Below w.heap.size w wr) (fun i _ => l.length - (intOf i).toNat)
  case atStart => exact ⟨0, by omega, rfl, HE, Below.refl _ _⟩
  case round =>
    obtain ⟨k, hk, rfl, HF, RB⟩ := hrel
    by_cases hlt : k < l.length
    · have HST := Lib.hid (HS.out.keep RB)
      obtain ⟨b, o, f, t, p, rfl, hb, he, c0, c1, c2⟩ := HST.out.at hlt
      have HD := Lib.hid (ovF_drop hlt (pvo l k))
      rw [he] at HD
      have HP := Lib.hid (show pvo l (k + 1) = t by simp [pvo, List.getD_eq_getElem?_getD, List.getElem?_eq_getElem hlt, he])
      have zr := RB.size
      have CF := Lib.hid (fun v => isNote6_any f v); have CT := Lib.hid (fun v => isNote6_any t v); have CP := Lib.hid (fun v => Within_any p 0 500 v)
      clear he
      by_cases hz : inR f 0 87 = true ∧ inR t 0 87 = true ∧ inR p 0 500 = true
      · have hx : roE f t p = 0 := by rw [roE_if, if_pos hz]
        simp only [hx] at HD
        have HX := Lib.hid hx; clear hx
        obtain ⟨b0, b1, b2⟩ := hz
        rw [b0] at CF; rw [b1] at CT; rw [b2] at CP
        clear b0 b1 b2
        by_cases htf : t < f
        · have HF2 := Lib.hid (show ovE l = 9 by rw [HF.out, HD.out, if_neg (by simp), if_pos (.inl htf)])
          go_wp2_with (first
            | (go_at_call 44; refine (CP.out _).mono ?_; rintro e w' ⟨rfl, rfl⟩)
            | (go_at_call 21; first | (refine (CF.out _).mono ?_; rintro e w' ⟨rfl, rfl⟩) | (refine (CT.out _).mono ?_; rintro e w' ⟨rfl, rfl⟩)))
          go_quiet (fail)
          go_wp2_with fail
          go_ret
          exact ⟨ret_int (by rw [HF2.out]), by (repeat' (first | (with_reducible exact Below.refl _ _) | (with_reducible assumption) | (with_reducible refine Below.drew ?_) | (with_reducible refine below_drewN ?_ _) | (with_reducible refine Below.setCell ?_ ?_ _) | (with_reducible refine Below.alloc ?_ ?_ _) | go_size | omega))⟩
        · have htf' : decide (t < f) = false := by simpa using htf
          by_cases hk0 : 0 < k
          · obtain ⟨j, rfl⟩ : ∃ j, k = j + 1 := ⟨k - 1, by omega⟩
            have hkd : decide (0 < j + 1) = true := by simp
            obtain ⟨b', o', f', q, p', e', hb', he', -, p0, -⟩ := HST.out.at (show j < l.length by omega)
            cases e'
            have HPQ := Lib.hid (show pvo l (j + 1) = q by simp [pvo, List.getD_eq_getElem?_getD, List.getElem?_eq_getElem (show j < l.length by omega), he'])
            have hpos : (0 : Int) < (j : Int) + 1 := by omega
            have W1 : IntKind.i64.wrap ((j : Int) + 1 - 1) = (j : Int) := by rw [show (j : Int) + 1 - 1 = j by omega]; exact IntWalk.i64_in _ (by omega)
            rw [show (((j + 1 : Nat)) : Int) = (j : Int) + 1 by omega]
            clear he'
            go_wp2_with (first
              | (go_at_call 44; refine (CP.out _).mono ?_; rintro e w' ⟨rfl, rfl⟩)
              | (go_at_call 21; first | (refine (CF.out _).mono ?_; rintro e w' ⟨rfl, rfl⟩) | (refine (CT.out _).mono ?_; rintro e w' ⟨rfl, rfl⟩)))
            by_cases hdq : f ≤ q
            · have HF2 := Lib.hid (show ovE l = 9 by rw [HF.out, HD.out, if_neg (by simp), if_pos (.inr (by rw [HPQ.out]; exact hdq))])
              go_quiet (fail)
              go_wp2_with fail
              go_ret
              exact ⟨ret_int (by rw [HF2.out]), by (repeat' (first | (with_reducible exact Below.refl _ _) | (with_reducible assumption) | (with_reducible refine Below.drew ?_) | (with_reducible refine below_drewN ?_ _) | (with_reducible refine Below.setCell ?_ ?_ _) | (with_reducible refine Below.alloc ?_ ?_ _) | go_size | omega))⟩
            · have HF2 := Lib.hid (show ovE l = ovF t (l.drop (j + 1 + 1)) by rw [HF.out, HD.out, if_neg (by simp), if_neg (by rw [HPQ.out]; omega)])
              go_quiet (fail)
              go_wp2_with fail
              go_roundw
              case rel => exact ⟨j + 1 + 1, by omega, by go_num, Lib.hid (by rw [HF2.out, HP.out]), by (repeat' (first | (with_reducible exact Below.refl _ _) | (with_reducible assumption) | (with_reducible refine Below.drew ?_) | (with_reducible refine below_drewN ?_ _) | (with_reducible refine Below.setCell ?_ ?_ _) | (with_reducible refine Below.alloc ?_ ?_ _) | go_size | omega))⟩
              case measure => simp [intOf]; omega
          · obtain rfl : k = 0 := by omega
            simp only [Nat.zero_mul, Nat.add_zero] at c0 c1 c2
            have HF2 := Lib.hid (show ovE l = ovF t (l.drop (0 + 1)) by
              have := (roE_ok HX.out).1
              rw [HF.out, HD.out, if_neg (by simp), if_neg (by show ¬ (t < f ∨ f ≤ -1); omega)])
            go_wp2_with (first
              | (go_at_call 44; refine (CP.out _).mono ?_; rintro e w' ⟨rfl, rfl⟩)
              | (go_at_call 21; first | (refine (CF.out _).mono ?_; rintro e w' ⟨rfl, rfl⟩) | (refine (CT.out _).mono ?_; rintro e w' ⟨rfl, rfl⟩)))
            go_quiet (fail)
            go_wp2_with fail
            go_roundw
            case rel => exact ⟨0 + 1, by omega, by go_num, Lib.hid (by rw [HF2.out, HP.out]), by (repeat' (first | (with_reducible exact Below.refl _ _) | (with_reducible assumption) | (with_reducible refine Below.drew ?_) | (with_reducible refine below_drewN ?_ _) | (with_reducible refine Below.setCell ?_ ?_ _) | (with_reducible refine Below.alloc ?_ ?_ _) | go_size | omega))⟩
            case measure => simp [intOf]; omega
      · have HF2 := Lib.hid (show ovE l = 2 by
          have hx : roE f t p = 2 := by rw [roE_if, if_neg hz]
          rw [HF.out, HD.out]; simp only [hx]; rfl)
        have HZ := Lib.hid hz; clear hz
        cases b0 : inR f 0 87 with
        | false =>
          rw [b0] at CF
          clear b0 CT CP
          go_wp2_with (go_at_call 21; refine (CF.out _).mono ?_; rintro e w' ⟨rfl, rfl⟩)
          go_ret
          exact ⟨ret_int (by rw [HF2.out]), by (repeat' (first | (with_reducible exact Below.refl _ _) | (with_reducible assumption) | (with_reducible refine Below.drew ?_) | (with_reducible refine below_drewN ?_ _) | (with_reducible refine Below.setCell ?_ ?_ _) | (with_reducible refine Below.alloc ?_ ?_ _) | go_size | omega))⟩
        | true =>
          rw [b0] at CF
          cases b1 : inR t 0 87 with
          | false =>
            rw [b1] at CT
            clear b0 b1 CP
            go_wp2_with (go_at_call 21; first | (refine (CF.out _).mono ?_; rintro e w' ⟨rfl, rfl⟩) | (refine (CT.out _).mono ?_; rintro e w' ⟨rfl, rfl⟩))
            go_ret
            exact ⟨ret_int (by rw [HF2.out]), by (repeat' (first | (with_reducible exact Below.refl _ _) | (with_reducible assumption) | (with_reducible refine Below.drew ?_) | (with_reducible refine below_drewN ?_ _) | (with_reducible refine Below.setCell ?_ ?_ _) | (with_reducible refine Below.alloc ?_ ?_ _) | go_size | omega))⟩
          | true =>
            have b2 : inR p 0 500 = false := by
              cases b2 : inR p 0 500 with
              | false => rfl
              | true => exact absurd ⟨b0, b1, b2⟩ HZ.out
            rw [b1] at CT; rw [b2] at CP
            clear b0 b1 b2
            go_wp2_with (first
              | (go_at_call 44; refine (CP.out _).mono ?_; rintro e w' ⟨rfl, rfl⟩)
              | (go_at_call 21; first | (refine (CF.out _).mono ?_; rintro e w' ⟨rfl, rfl⟩) | (refine (CT.out _).mono ?_; rintro e w' ⟨rfl, rfl⟩)))
            go_ret
            exact ⟨ret_int (by rw [HF2.out]), by (repeat' (first | (with_reducible exact Below.refl _ _) | (with_reducible assumption) | (with_reducible refine Below.drew ?_) | (with_reducible refine below_drewN ?_ _) | (with_reducible refine Below.setCell ?_ ?_ _) | (with_reducible refine Below.alloc ?_ ?_ _) | go_size | omega))⟩
    · obtain rfl : k = l.length := by omega
      go_wp2_with fail
      go_ret
      exact ⟨ret_int (by rw [HF.out]; simp [ovF]), RB⟩
set_option maxRecDepth 100000 in
set_option maxHeartbeats 1600000 in
theorem refOverpullAt_any (l : List (Int × Int × Int)) (a : Option Addr) (cap : Nat) (note : Int) (w : World) (hlen : l.length ≤ 1000) (hs : OvAt w a l) :
    Calls Tryd.prog 22 #[.slice a l.length cap, .int .i64 note] w fun e w' => e = .returned (.int .i64 (ovN note l)) ∧ Below w.heap.size w w' := by
  have HS := Lib.hid hs; clear hs
  have HE := Lib.hid (show ovN note l = ovN note (l.drop 0) from rfl)
  go_enter Tryd.func22, Tryd.ntmps22
  go_wp2
  go_loopw [5] (fun i wr => ∃ k : Nat, k ≤ l.length ∧ i = .int .i64 k ∧ Hid (ovN note l = ovN note (l.drop k)) ∧ Below w.heap.size w wr) (fun i _ => l.length - (intOf i).toNat)
  case atStart => exact ⟨0, by omega, rfl, HE, Below.refl _ _⟩
  case round =>
    obtain ⟨k, hk, rfl, HF, RB⟩ := hrel
    by_cases hlt : k < l.length
    · obtain ⟨b, o, f, t, p, rfl, hb, he, c0, c1, c2⟩ := (HS.out.keep RB).at hlt
      have HD := Lib.hid (ovN_drop hlt note)
      rw [he] at HD
      have HB := Lib.hid (show ∃ x, inR note f t = x from ⟨_, rfl⟩)
      obtain ⟨x, hx⟩ := HB.out
      have CB := Lib.hid (fun v => Within_any note f t v)
      rw [hx] at CB
      simp only [hx] at HD
      clear hx HB he
      have zr := RB.size
      cases x with
      | true =>
        go_wp2_with fail
        go_quiet ((go_at_call 44; refine (CB.out _).mono ?_; rintro e w9 ⟨rfl, rfl⟩; exact ⟨rfl, _, rfl⟩))
        go_wp2_with fail
        go_ret
        exact ⟨ret_int (by rw [HF.out, HD.out]; rfl), by (repeat' (first | (with_reducible exact Below.refl _ _) | (with_reducible assumption) | (with_reducible refine Below.drew ?_) | (with_reducible refine below_drewN ?_ _) | (with_reducible refine Below.setCell ?_ ?_ _) | (with_reducible refine Below.alloc ?_ ?_ _) | go_size | omega))⟩
      | false =>
        go_wp2_with fail
        go_quiet ((go_at_call 44; refine (CB.out _).mono ?_; rintro e w9 ⟨rfl, rfl⟩; exact ⟨rfl, _, rfl⟩))
        go_wp2_with fail
        go_roundw
        case rel => exact ⟨k + 1, by omega, by go_num, Lib.hid (by rw [HF.out, HD.out]; rfl), by (repeat' (first | (with_reducible exact Below.refl _ _) | (with_reducible assumption) | (with_reducible refine Below.drew ?_) | (with_reducible refine below_drewN ?_ _) | (with_reducible refine Below.setCell ?_ ?_ _) | (with_reducible refine Below.alloc ?_ ?_ _) | go_size | omega))⟩
        case measure => simp [intOf]; omega
    · obtain rfl : k = l.length := by omega
      go_wp2_with fail
      go_ret
      exact ⟨ret_int (by rw [HF.out]; simp [ovN]), RB⟩
end Go.Proofs.YtnjlifmjjihahaaDoor
