/-
  Readings and drifts: readingError, CheckDrift, CheckClimate. No condition but the length.
-/
import Derived.Test.YtnjlifmjjihahaaDoorCor
import Derived.StillTailTactics
import Derived.Deep.DrawnRows
namespace Go.Proofs.YtnjlifmjjihahaaDoor
open Go.RowKit
attribute [local go_sem ↓] Go.wp_at_zero Go.wp_at_succ
def rdE (d h : Int) : Int := orV [rgE d 0 100000, rgE h 0 1000]
def drE (s m r t : Int) : Int := orV [rgE s 0 1000, rgE m 1 365, rgE r 0 1000, rgE t 0 1000000]
theorem rgE_cas (n lo hi : Int) : (rgE n lo hi = 0 ∧ lo ≤ n ∧ n ≤ hi) ∨ rgE n lo hi = 2 := by
  unfold rgE inR
  by_cases h : lo ≤ n ∧ n ≤ hi
  · left; rw [decide_eq_true h]; exact ⟨rfl, h.1, h.2⟩
  · right; rw [decide_eq_false h]; rfl
theorem rdE_ok {d h : Int} (e : rdE d h = 0) : (0 ≤ d ∧ d ≤ 100000) ∧ 0 ≤ h ∧ h ≤ 1000 := by
  unfold rdE at e
  rcases rgE_cas d 0 100000 with ⟨h1, h2⟩ | h1 <;> rcases rgE_cas h 0 1000 with ⟨h3, h4⟩ | h3 <;> simp [orV, h1, h3] at e
  exact ⟨h2, h4⟩
theorem drE_ok {s m r t : Int} (e : drE s m r t = 0) : (0 ≤ s ∧ s ≤ 1000) ∧ (1 ≤ m ∧ m ≤ 365) ∧ (0 ≤ r ∧ r ≤ 1000) ∧ 0 ≤ t ∧ t ≤ 1000000 := by
  unfold drE at e
  rcases rgE_cas s 0 1000 with ⟨h1, h2⟩ | h1 <;> rcases rgE_cas m 1 365 with ⟨h3, h4⟩ | h3 <;> rcases rgE_cas r 0 1000 with ⟨h5, h6⟩ | h5 <;> rcases rgE_cas t 0 1000000 with ⟨h7, h8⟩ | h7 <;> simp [orV, h1, h3, h5, h7] at e
  exact ⟨h2, h4, h6, h8⟩
set_option maxRecDepth 100000 in
set_option maxHeartbeats 1600000 in
theorem readErr_any (d h : Int) (w : World) : Calls Tryd.prog 82 #[.agg #[.int .i64 d, .int .i64 h]] w fun e w' => e = .returned (.int .i64 (rdE d h)) ∧ Below w.heap.size w w' := by
  have CD := Lib.hid (fun v => dayErr_any d v); have CH := Lib.hid (fun v => humErr_any h v)
  have CO := Lib.hid (fun v b (hh : RowAt v b [rgE d 0 100000, rgE h 0 1000]) => (show Calls Tryd.prog 70 #[.slice (some ⟨b, 0, none⟩) 2 2] v fun e w' => e = .returned (.int .i64 (rdE d h)) ∧ w' = v from or_any b 2 [rgE d 0 100000, rgE h 0 1000] v (by simp) hh))
  go_enter Tryd.func82, Tryd.ntmps82
  go_wp2_with fail
  have D := Lib.hid (Box.new w #[.int .i64 d, .int .i64 h] 52 (n := w.heap.size) rfl)
  have BU : Below w.heap.size w (w.alloc (.cells #[.int .i64 d, .int .i64 h] 52)) := by (repeat' (first | (with_reducible exact Below.refl _ _) | (with_reducible assumption) | (with_reducible refine Below.drew ?_) | (with_reducible refine below_drewN ?_ _) | (with_reducible refine Below.setCell ?_ ?_ _) | (with_reducible refine Below.alloc ?_ ?_ _) | go_size | omega))
  generalize (w.alloc (.cells #[.int .i64 d, .int .i64 h] 52)) = u at *
  obtain ⟨k0, k1, -⟩ := D.out.two
  have ld := D.out.lt
  go_still_tail 6, (by kernel_rfl)
  repeat still_step
  still_call (CD.out _)
  repeat still_step
  still_call (CH.out _)
  repeat still_step
  refine wpStill_nil ?_
  clear CD CH
  go_wp2_with fail
  refine (CO.out ((u.alloc (.cells #[.int .i64 (rgE d 0 100000), .int .i64 (rgE h 0 1000)] 23)).drew) u.heap.size (RowAt.of_box (Box.new u _ 23 (n := u.heap.size) rfl).drew)).mono ?_
  rintro e w' ⟨rfl, rfl⟩
  have B2 : Below w.heap.size w ((u.alloc (.cells #[.int .i64 (rgE d 0 100000), .int .i64 (rgE h 0 1000)] 23)).drew) := by (repeat' (first | (with_reducible exact Below.refl _ _) | (with_reducible assumption) | (with_reducible refine Below.drew ?_) | (with_reducible refine below_drewN ?_ _) | (with_reducible refine Below.setCell ?_ ?_ _) | (with_reducible refine Below.alloc ?_ ?_ _) | go_size | omega))
  go_wp2_with fail
  go_ret
  exact ⟨rfl, B2⟩
set_option maxRecDepth 100000 in
set_option maxHeartbeats 1600000 in
theorem checkDrift_any (s m r t : Int) (w : World) : Calls Tryd.prog 43 #[.agg #[.int .i64 s, .int .i64 m, .int .i64 r, .int .i64 t]] w fun e w' => e = .returned (.int .i64 (drE s m r t)) ∧ Below w.heap.size w w' := by
  have CS := Lib.hid (fun v => humErr_any s v); have CM := Lib.hid (fun v => rangeError_any m 1 365 v); have CR := Lib.hid (fun v => rangeError_any r 0 1000 v); have CT := Lib.hid (fun v => rangeError_any t 0 1000000 v)
  have CO := Lib.hid (fun v b (hh : RowAt v b [rgE s 0 1000, rgE m 1 365, rgE r 0 1000, rgE t 0 1000000]) => (show Calls Tryd.prog 70 #[.slice (some ⟨b, 0, none⟩) 4 4] v fun e w' => e = .returned (.int .i64 (drE s m r t)) ∧ w' = v from or_any b 4 [rgE s 0 1000, rgE m 1 365, rgE r 0 1000, rgE t 0 1000000] v (by simp) hh))
  go_enter Tryd.func43, Tryd.ntmps43
  go_wp2_with fail
  have D := Lib.hid (Box.new w #[.int .i64 s, .int .i64 m, .int .i64 r, .int .i64 t] 63 (n := w.heap.size) rfl)
  have BU : Below w.heap.size w (w.alloc (.cells #[.int .i64 s, .int .i64 m, .int .i64 r, .int .i64 t] 63)) := by (repeat' (first | (with_reducible exact Below.refl _ _) | (with_reducible assumption) | (with_reducible refine Below.drew ?_) | (with_reducible refine below_drewN ?_ _) | (with_reducible refine Below.setCell ?_ ?_ _) | (with_reducible refine Below.alloc ?_ ?_ _) | go_size | omega))
  generalize (w.alloc (.cells #[.int .i64 s, .int .i64 m, .int .i64 r, .int .i64 t] 63)) = u at *
  obtain ⟨k0, k1, k2, k3, -⟩ := D.out.four
  have ld := D.out.lt
  go_still_tail 12, (by kernel_rfl)
  repeat still_step
  still_call (CS.out _)
  repeat still_step
  still_call (CM.out _)
  repeat still_step
  still_call (CR.out _)
  repeat still_step
  still_call (CT.out _)
  repeat still_step
  refine wpStill_nil ?_
  clear CS CM CR CT
  go_wp2_with fail
  refine (CO.out ((u.alloc (.cells #[.int .i64 (rgE s 0 1000), .int .i64 (rgE m 1 365), .int .i64 (rgE r 0 1000), .int .i64 (rgE t 0 1000000)] 23)).drew) u.heap.size (RowAt.of_box (Box.new u _ 23 (n := u.heap.size) rfl).drew)).mono ?_
  rintro e w' ⟨rfl, rfl⟩
  have B2 : Below w.heap.size w ((u.alloc (.cells #[.int .i64 (rgE s 0 1000), .int .i64 (rgE m 1 365), .int .i64 (rgE r 0 1000), .int .i64 (rgE t 0 1000000)] 23)).drew) := by (repeat' (first | (with_reducible exact Below.refl _ _) | (with_reducible assumption) | (with_reducible refine Below.drew ?_) | (with_reducible refine below_drewN ?_ _) | (with_reducible refine Below.setCell ?_ ?_ _) | (with_reducible refine Below.alloc ?_ ?_ _) | go_size | omega))
  go_wp2_with fail
  go_ret
  exact ⟨rfl, B2⟩
/-- readings at a slice: each day and its humidity -/
def ClAt (w : World) (a : Option Addr) (l : List (Int × Int)) : Prop := l = [] ∨ ∃ b o, a = some ⟨b, o, none⟩ ∧ b < w.heap.size ∧ ∀ j (h : j < l.length), w.cell? ⟨b, o + j * 2, none⟩ = some (.int .i64 (l[j]).1) ∧ w.cell? ⟨b, o + j * 2 + 1, none⟩ = some (.int .i64 (l[j]).2)
theorem ClAt.keep {w w' : World} {a : Option Addr} {l : List (Int × Int)} (h : ClAt w a l) (hb : Below w.heap.size w w') : ClAt w' a l := by
  rcases h with h | ⟨b, o, e, hl, hc⟩
  · exact .inl h
  · exact .inr ⟨b, o, e, Nat.lt_of_lt_of_le hl hb.size, fun j hj => ⟨(hb.cell (p := ⟨b, _, none⟩) hl).trans (hc j hj).1, (hb.cell (p := ⟨b, _, none⟩) hl).trans (hc j hj).2⟩⟩
/-- the error of readings behind the day p -/
def clF : Int → List (Int × Int) → Int
  | _, [] => 0
  | p, x :: l => if rdE x.1 x.2 ≠ 0 then rdE x.1 x.2 else if x.1 ≤ p then 9 else clF x.1 l
def clE (l : List (Int × Int)) : Int := if l.length = 0 then 12 else if 200 < l.length then 8 else clF (-1) l
theorem clF_drop {l : List (Int × Int)} {k : Nat} (h : k < l.length) (p : Int) : clF p (l.drop k) = if rdE (l[k]).1 (l[k]).2 ≠ 0 then rdE (l[k]).1 (l[k]).2 else if (l[k]).1 ≤ p then 9 else clF (l[k]).1 (l.drop (k + 1)) := by
  rw [List.drop_eq_getElem_cons h]; rfl
/-- the day before the k-th reading -/
def prv (l : List (Int × Int)) : Nat → Int
  | 0 => -1
  | k + 1 => (l.getD k (0, 0)).1
set_option maxRecDepth 100000 in
set_option maxHeartbeats 3200000 in
theorem checkClimate_any (l : List (Int × Int)) (a : Option Addr) (cap : Nat) (w : World) (hlen : l.length ≤ 1000) (hs : ClAt w a l) :
    Calls Tryd.prog 33 #[.slice a l.length cap] w fun e w' => e = .returned (.int .i64 (clE l)) ∧ Below w.heap.size w w' := by
  have HS := Lib.hid hs; clear hs
  by_cases h0 : l.length = 0
  · have HE := Lib.hid (show clE l = 12 by unfold clE; rw [if_pos h0])
    generalize l.length = n at *
    subst h0
    go_enter Tryd.func33, Tryd.ntmps33
    go_wp2
    go_ret
    exact ⟨ret_int (by rw [HE.out]), by (repeat' (first | (with_reducible exact Below.refl _ _) | (with_reducible assumption) | (with_reducible refine Below.drew ?_) | (with_reducible refine below_drewN ?_ _) | (with_reducible refine Below.setCell ?_ ?_ _) | (with_reducible refine Below.alloc ?_ ?_ _) | go_size | omega))⟩
  have h0' : ((l.length : Int) == 0) = false := by rw [beq_eq_false_iff_ne]; omega
  by_cases h200 : 200 < l.length
  · have HE := Lib.hid (show clE l = 8 by unfold clE; rw [if_neg h0, if_pos h200])
    go_enter Tryd.func33, Tryd.ntmps33
    go_wp2
    go_ret
    exact ⟨ret_int (by rw [HE.out]), by (repeat' (first | (with_reducible exact Below.refl _ _) | (with_reducible assumption) | (with_reducible refine Below.drew ?_) | (with_reducible refine below_drewN ?_ _) | (with_reducible refine Below.setCell ?_ ?_ _) | (with_reducible refine Below.alloc ?_ ?_ _) | go_size | omega))⟩
  have HE := Lib.hid (show clE l = clF (prv l 0) (l.drop 0) by unfold clE; rw [if_neg h0, if_neg h200]; rfl)
  have H0 := Lib.hid h0; clear h0
  go_enter Tryd.func33, Tryd.ntmps33
  go_wp2
  go_loopw [16] (fun i wr => ∃ k : Nat, k ≤ l.length ∧ i = .int .i64 k ∧ Hid (clE l = clF (prv l k) (l.drop k)) ∧ Below w.heap.size w wr) (fun i _ => l.length - (intOf i).toNat)
  case atStart => exact ⟨0, by omega, rfl, HE, Below.refl _ _⟩
  case round =>
    obtain ⟨k, hk, rfl, HF, RB⟩ := hrel
    by_cases hlt : k < l.length
    · obtain ⟨b, o, rfl, hb, hcc⟩ : ∃ b o, a = some ⟨b, o, none⟩ ∧ b < wr.heap.size ∧ ∀ j (h : j < l.length), wr.cell? ⟨b, o + j * 2, none⟩ = some (.int .i64 (l[j]).1) ∧ wr.cell? ⟨b, o + j * 2 + 1, none⟩ = some (.int .i64 (l[j]).2) := by
        rcases HS.out.keep RB with h | h
        · subst h; simp at hlt
        · exact h
      obtain ⟨c0, c1⟩ := hcc k hlt
      have HD := Lib.hid (clF_drop hlt (prv l k))
      have HT := Lib.hid (show ∃ d h, l[k] = (d, h) from ⟨_, _, rfl⟩)
      obtain ⟨d, h, hdh⟩ := HT.out
      rw [hdh] at c0 c1 HD
      have HP := Lib.hid (show prv l (k + 1) = d by simp [prv, List.getD_eq_getElem?_getD, List.getElem?_eq_getElem hlt, hdh])
      have HCC := Lib.hid hcc
      clear hdh HT hcc
      have HV := Lib.hid (show ∃ x, rdE d h = x from ⟨_, rfl⟩)
      obtain ⟨x, hx⟩ := HV.out
      have CR := Lib.hid (fun v => readErr_any d h v)
      rw [hx] at CR
      simp only [hx] at HD
      have HX := Lib.hid hx; clear hx HV
      have zr := RB.size
      go_wp2_with fail
      have D1 := Lib.hid (Box.new wr #[.int .i64 d, .int .i64 h] 52 (n := wr.heap.size) rfl)
      refine (CR.out _).mono ?_
      rintro e w2 ⟨rfl, h2⟩
      have D2 := Lib.hid (D1.out.keep h2)
      have B2 : Below w.heap.size w w2 := below_via (by (repeat' (first | (with_reducible exact Below.refl _ _) | (with_reducible assumption) | (with_reducible refine Below.drew ?_) | (with_reducible refine below_drewN ?_ _) | (with_reducible refine Below.setCell ?_ ?_ _) | (with_reducible refine Below.alloc ?_ ?_ _) | go_size | omega))) h2
      have z2 := h2.size
      simp at z2
      have HK2 := Lib.hid (show Below wr.heap.size wr w2 from ((Below.refl _ wr).alloc (Nat.le_refl _) _).trans (h2.mono (by simp)))
      clear h2 CR D1
      obtain ⟨d0, d1, -⟩ := D2.out.two
      have ld := D2.out.lt
      by_cases hz : x = 0
      · subst hz
        by_cases hk0 : 0 < k
        · obtain ⟨j, rfl⟩ : ∃ j, k = j + 1 := ⟨k - 1, by omega⟩
          have hkd : decide (0 < j + 1) = true := by simp
          obtain ⟨p0, -⟩ := HCC.out j (by omega)
          have HQ := Lib.hid (show ∃ q, (l.getD j (0, 0)).1 = q from ⟨_, rfl⟩)
          obtain ⟨q, hq⟩ := HQ.out
          have HPQ := Lib.hid (show prv l (j + 1) = q from hq)
          have p0 : w2.cell? ⟨b, o + j * 2, none⟩ = some (.int .i64 q) := by
            rw [HK2.out.cell (p := ⟨b, o + j * 2, none⟩) hb, p0, ← hq]; simp [List.getD_eq_getElem?_getD, List.getElem?_eq_getElem (show j < l.length by omega)]
          have hb2 : b < w2.heap.size := by omega
          have hpos : (0 : Int) < (j : Int) + 1 := by omega
          have W1 : IntKind.i64.wrap ((j : Int) + 1 - 1) = (j : Int) := by rw [show (j : Int) + 1 - 1 = j by omega]; exact IntWalk.i64_in _ (by omega)
          rw [show (((j + 1 : Nat)) : Int) = (j : Int) + 1 by omega]
          clear hq HQ
          go_wp2_with fail
          by_cases hdq : d ≤ q
          · have HF2 := Lib.hid (show clE l = 9 by rw [HF.out, HD.out, if_neg (by simp), if_pos (by rw [HPQ.out]; exact hdq)])
            go_quiet (fail)
            go_wp2_with fail
            go_ret
            exact ⟨ret_int (by rw [HF2.out]), by (repeat' (first | (with_reducible exact Below.refl _ _) | (with_reducible assumption) | (with_reducible refine Below.drew ?_) | (with_reducible refine below_drewN ?_ _) | (with_reducible refine Below.setCell ?_ ?_ _) | (with_reducible refine Below.alloc ?_ ?_ _) | go_size | omega))⟩
          · have HF2 := Lib.hid (show clE l = clF d (l.drop (j + 1 + 1)) by rw [HF.out, HD.out, if_neg (by simp), if_neg (by rw [HPQ.out]; exact hdq)])
            go_quiet (fail)
            go_wp2_with fail
            go_roundw
            case rel => exact ⟨j + 1 + 1, by omega, by go_num, Lib.hid (by rw [HF2.out, HP.out]), by (repeat' (first | (with_reducible exact Below.refl _ _) | (with_reducible assumption) | (with_reducible refine Below.drew ?_) | (with_reducible refine below_drewN ?_ _) | (with_reducible refine Below.setCell ?_ ?_ _) | (with_reducible refine Below.alloc ?_ ?_ _) | go_size | omega))⟩
            case measure => simp [intOf]; omega
        · obtain rfl : k = 0 := by omega
          have HF2 := Lib.hid (show clE l = clF d (l.drop (0 + 1)) by
            have := rdE_ok HX.out
            rw [HF.out, HD.out, if_neg (by simp), if_neg (by show ¬ d ≤ -1; omega)])
          go_wp2_with fail
          go_quiet (fail)
          go_wp2_with fail
          go_roundw
          case rel => exact ⟨0 + 1, by omega, by go_num, Lib.hid (by rw [HF2.out, HP.out]), by (repeat' (first | (with_reducible exact Below.refl _ _) | (with_reducible assumption) | (with_reducible refine Below.drew ?_) | (with_reducible refine below_drewN ?_ _) | (with_reducible refine Below.setCell ?_ ?_ _) | (with_reducible refine Below.alloc ?_ ?_ _) | go_size | omega))⟩
          case measure => simp [intOf]; omega
      · have hz' : (x != 0) = true := by simpa using hz
        have HZ := Lib.hid hz; clear hz
        go_wp2_with fail
        go_ret
        exact ⟨ret_int (by rw [HF.out, HD.out, if_pos HZ.out]), B2⟩
    · obtain rfl : k = l.length := by omega
      go_wp2_with fail
      go_ret
      exact ⟨ret_int (by rw [HF.out]; simp [clF]), RB⟩
end Go.Proofs.YtnjlifmjjihahaaDoor
