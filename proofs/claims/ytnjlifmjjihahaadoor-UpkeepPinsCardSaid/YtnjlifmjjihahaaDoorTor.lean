/-
  The reference's CheckTorques. No condition but the length.
-/
import Derived.Test.YtnjlifmjjihahaaDoorToq
namespace Go.Proofs.YtnjlifmjjihahaaDoor
open Go Go.RowKit
theorem isDay7_any (n : Int) (w : World) : Calls Tryd.prog 37 #[.int .i64 n] w fun e w' => e = .returned (.bool (inR n 0 100000)) ∧ w' = w := by
  go_enter Tryd.func37, Tryd.ntmps37
  go_wp2_with (go_at_call 44; refine (Within_any _ _ _ _).mono ?_; rintro e w' ⟨rfl, rfl⟩)
  go_ret
  exact ⟨rfl, rfl⟩
set_option maxRecDepth 100000 in
set_option maxHeartbeats 3200000 in
theorem refCheckTorques_any (l : List (Int × Int)) (a : Option Addr) (cap : Nat) (w : World) (hlen : l.length ≤ 1000) (hs : TqAt w a l) :
    Calls Tryd.prog 24 #[.slice a l.length cap] w fun e w' => e = .returned (.int .i64 (tqsE l)) ∧ Below w.heap.size w w' := by
  have HS := Lib.hid hs; clear hs
  by_cases h60 : 60 < l.length
  · have HE := Lib.hid (show tqsE l = 8 by unfold tqsE; rw [if_pos h60])
    go_enter Tryd.func24, Tryd.ntmps24
    go_wp2
    go_ret
    exact ⟨ret_int (by rw [HE.out]), by (repeat' (first | (with_reducible exact Below.refl _ _) | (with_reducible assumption) | (with_reducible refine Below.drew ?_) | (with_reducible refine below_drewN ?_ _) | (with_reducible refine Below.setCell ?_ ?_ _) | (with_reducible refine Below.alloc ?_ ?_ _) | go_size | omega))⟩
  have HE := Lib.hid (show tqsE l = tqF (pvt l 0) (l.drop 0) by unfold tqsE; rw [if_neg h60]; rfl)
  go_enter Tryd.func24, Tryd.ntmps24
  go_wp2
  go_loopw [3] (fun i wr => ∃ k : Nat, k ≤ l.length ∧ i = .int .i64 k ∧ Hid (tqsE l = tqF (pvt l k) (l.drop k)) ∧ Below w.heap.size w wr) (fun i _ => l.length - (intOf i).toNat)
  case atStart => exact ⟨0, by omega, rfl, HE, Below.refl _ _⟩
  case round =>
    obtain ⟨k, hk, rfl, HF, RB⟩ := hrel
    by_cases hlt : k < l.length
    · have HST := Lib.hid (HS.out.keep RB)
      obtain ⟨b, o, d, f, rfl, hb, he, c0, c1⟩ := HST.out.at hlt
      have HD := Lib.hid (tqF_drop hlt (pvt l k))
      rw [he] at HD
      have HP := Lib.hid (show pvt l (k + 1) = d by simp [pvt, List.getD_eq_getElem?_getD, List.getElem?_eq_getElem hlt, he])
      have zr := RB.size
      have CF := Lib.hid (fun v => isDay7_any d v); have CP := Lib.hid (fun v => Within_any f 0 100000 v)
      clear he
      by_cases hz : inR d 0 100000 = true ∧ inR f 0 100000 = true
      · have hx : tqE d f = 0 := by rw [tqE_if, if_pos hz]
        simp only [hx] at HD
        have HX := Lib.hid hx; clear hx
        obtain ⟨b0, b1⟩ := hz
        rw [b0] at CF; rw [b1] at CP
        clear b0 b1
        by_cases hk0 : 0 < k
        · obtain ⟨j, rfl⟩ : ∃ j, k = j + 1 := ⟨k - 1, by omega⟩
          have hkd : decide (0 < j + 1) = true := by simp
          obtain ⟨b', o', q, f', e', hb', he', p0, -⟩ := HST.out.at (show j < l.length by omega)
          cases e'
          have HPQ := Lib.hid (show pvt l (j + 1) = q by simp [pvt, List.getD_eq_getElem?_getD, List.getElem?_eq_getElem (show j < l.length by omega), he'])
          have hpos : (0 : Int) < (j : Int) + 1 := by omega
          have W1 : IntKind.i64.wrap ((j : Int) + 1 - 1) = (j : Int) := by rw [show (j : Int) + 1 - 1 = j by omega]; exact IntWalk.i64_in _ (by omega)
          rw [show (((j + 1 : Nat)) : Int) = (j : Int) + 1 by omega]
          clear he'
          go_wp2_with (first
            | (go_at_call 44; refine (CP.out _).mono ?_; rintro e w' ⟨rfl, rfl⟩)
            | (go_at_call 37; refine (CF.out _).mono ?_; rintro e w' ⟨rfl, rfl⟩))
          by_cases hdq : d ≤ q
          · have HF2 := Lib.hid (show tqsE l = 9 by rw [HF.out, HD.out, if_neg (by simp), if_pos (by rw [HPQ.out]; exact hdq)])
            go_quiet (fail)
            go_wp2_with fail
            go_ret
            exact ⟨ret_int (by rw [HF2.out]), by (repeat' (first | (with_reducible exact Below.refl _ _) | (with_reducible assumption) | (with_reducible refine Below.drew ?_) | (with_reducible refine below_drewN ?_ _) | (with_reducible refine Below.setCell ?_ ?_ _) | (with_reducible refine Below.alloc ?_ ?_ _) | go_size | omega))⟩
          · have HF2 := Lib.hid (show tqsE l = tqF d (l.drop (j + 1 + 1)) by rw [HF.out, HD.out, if_neg (by simp), if_neg (by rw [HPQ.out]; omega)])
            go_quiet (fail)
            go_wp2_with fail
            go_roundw
            case rel => exact ⟨j + 1 + 1, by omega, by go_num, Lib.hid (by rw [HF2.out, HP.out]), by (repeat' (first | (with_reducible exact Below.refl _ _) | (with_reducible assumption) | (with_reducible refine Below.drew ?_) | (with_reducible refine below_drewN ?_ _) | (with_reducible refine Below.setCell ?_ ?_ _) | (with_reducible refine Below.alloc ?_ ?_ _) | go_size | omega))⟩
            case measure => simp [intOf]; omega
        · obtain rfl : k = 0 := by omega
          simp only [Nat.zero_mul, Nat.add_zero] at c0 c1
          have HF2 := Lib.hid (show tqsE l = tqF d (l.drop (0 + 1)) by
            have := (tqE_ok HX.out).1
            rw [HF.out, HD.out, if_neg (by simp), if_neg (by show ¬ d ≤ -1; omega)])
          go_wp2_with (first
            | (go_at_call 44; refine (CP.out _).mono ?_; rintro e w' ⟨rfl, rfl⟩)
            | (go_at_call 37; refine (CF.out _).mono ?_; rintro e w' ⟨rfl, rfl⟩))
          go_quiet (fail)
          go_wp2_with fail
          go_roundw
          case rel => exact ⟨0 + 1, by omega, by go_num, Lib.hid (by rw [HF2.out, HP.out]), by (repeat' (first | (with_reducible exact Below.refl _ _) | (with_reducible assumption) | (with_reducible refine Below.drew ?_) | (with_reducible refine below_drewN ?_ _) | (with_reducible refine Below.setCell ?_ ?_ _) | (with_reducible refine Below.alloc ?_ ?_ _) | go_size | omega))⟩
          case measure => simp [intOf]; omega
      · have HF2 := Lib.hid (show tqsE l = 2 by
          have hx : tqE d f = 2 := by rw [tqE_if, if_neg hz]
          rw [HF.out, HD.out]; simp only [hx]; rfl)
        have HZ := Lib.hid hz; clear hz
        cases b0 : inR d 0 100000 with
        | false =>
          rw [b0] at CF
          clear b0 CP
          go_wp2_with (go_at_call 37; refine (CF.out _).mono ?_; rintro e w' ⟨rfl, rfl⟩)
          go_ret
          exact ⟨ret_int (by rw [HF2.out]), by (repeat' (first | (with_reducible exact Below.refl _ _) | (with_reducible assumption) | (with_reducible refine Below.drew ?_) | (with_reducible refine below_drewN ?_ _) | (with_reducible refine Below.setCell ?_ ?_ _) | (with_reducible refine Below.alloc ?_ ?_ _) | go_size | omega))⟩
        | true =>
          rw [b0] at CF
          have b2 : inR f 0 100000 = false := by
            cases b2 : inR f 0 100000 with
            | false => rfl
            | true => exact absurd ⟨b0, b2⟩ HZ.out
          rw [b2] at CP
          clear b0 b2
          go_wp2_with (first
            | (go_at_call 44; refine (CP.out _).mono ?_; rintro e w' ⟨rfl, rfl⟩)
            | (go_at_call 37; refine (CF.out _).mono ?_; rintro e w' ⟨rfl, rfl⟩))
          go_ret
          exact ⟨ret_int (by rw [HF2.out]), by (repeat' (first | (with_reducible exact Below.refl _ _) | (with_reducible assumption) | (with_reducible refine Below.drew ?_) | (with_reducible refine below_drewN ?_ _) | (with_reducible refine Below.setCell ?_ ?_ _) | (with_reducible refine Below.alloc ?_ ?_ _) | go_size | omega))⟩
    · obtain rfl : k = l.length := by omega
      go_wp2_with fail
      go_ret
      exact ⟨ret_int (by rw [HF.out]; simp [tqF]), RB⟩
end Go.Proofs.YtnjlifmjjihahaaDoor
