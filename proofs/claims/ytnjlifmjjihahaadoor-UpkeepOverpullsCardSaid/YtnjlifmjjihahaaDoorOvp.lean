/-
  Tables of overpulls: CheckOverpull, overpullAt, OverpullAt, and their references. No condition but the length.
-/
import Derived.Test.YtnjlifmjjihahaaDoorCor
import Derived.StillTailTactics
import Derived.BigQuiet
namespace Go.Proofs.YtnjlifmjjihahaaDoor
open Go Go.RowKit
/-- the error of a line -/
def roE (f t p : Int) : Int := orV [rgE f 0 87, rgE t 0 87, rgE p 0 500]
/-- lines at a slice: the first note, the last note, the per mille -/
def OvAt (w : World) (a : Option Addr) (l : List (Int × Int × Int)) : Prop := l = [] ∨ ∃ b o, a = some ⟨b, o, none⟩ ∧ b < w.heap.size ∧ ∀ j (h : j < l.length),
  w.cell? ⟨b, o + j * 3, none⟩ = some (.int .i64 (l[j]).1) ∧ w.cell? ⟨b, o + j * 3 + 1, none⟩ = some (.int .i64 (l[j]).2.1) ∧ w.cell? ⟨b, o + j * 3 + 2, none⟩ = some (.int .i64 (l[j]).2.2)
theorem OvAt.keep {w w' : World} {a : Option Addr} {l : List (Int × Int × Int)} (h : OvAt w a l) (hb : Below w.heap.size w w') : OvAt w' a l := by
  rcases h with h | ⟨b, o, e, hl, hc⟩
  · exact .inl h
  · exact .inr ⟨b, o, e, Nat.lt_of_lt_of_le hl hb.size, fun j hj => ⟨(hb.cell (p := ⟨b, _, none⟩) hl).trans (hc j hj).1, (hb.cell (p := ⟨b, _, none⟩) hl).trans (hc j hj).2.1, (hb.cell (p := ⟨b, _, none⟩) hl).trans (hc j hj).2.2⟩⟩
/-- the error of lines behind one that ends with the note p -/
def ovF : Int → List (Int × Int × Int) → Int
  | _, [] => 0
  | p, x :: l => if roE x.1 x.2.1 x.2.2 ≠ 0 then roE x.1 x.2.1 x.2.2 else if x.2.1 < x.1 ∨ x.1 ≤ p then 9 else ovF x.2.1 l
def ovE (l : List (Int × Int × Int)) : Int := if 20 < l.length then 8 else ovF (-1) l
theorem ovF_drop {l : List (Int × Int × Int)} {k : Nat} (h : k < l.length) (p : Int) : ovF p (l.drop k) = if roE (l[k]).1 (l[k]).2.1 (l[k]).2.2 ≠ 0 then roE (l[k]).1 (l[k]).2.1 (l[k]).2.2 else if (l[k]).2.1 < (l[k]).1 ∨ (l[k]).1 ≤ p then 9 else ovF (l[k]).2.1 (l.drop (k + 1)) := by
  rw [List.drop_eq_getElem_cons h]; rfl
/-- the last note before the k-th line -/
def pvo (l : List (Int × Int × Int)) : Nat → Int
  | 0 => -1
  | k + 1 => (l.getD k (0, 0, 0)).2.1
theorem rgE_in {n lo hi : Int} (e : rgE n lo hi = 0) : lo ≤ n ∧ n ≤ hi := by
  unfold rgE inR at e
  by_cases h : lo ≤ n ∧ n ≤ hi
  · exact h
  · rw [decide_eq_false h] at e; simp at e
theorem orV_three {a b c : Int} (h : orV [a, b, c] = 0) : a = 0 ∧ b = 0 ∧ c = 0 := by
  unfold orV at h
  by_cases ha : a = 0 <;> by_cases hb : b = 0 <;> by_cases hc : c = 0 <;> simp [orV, ha, hb, hc] at h ⊢
theorem roE_ok {f t p : Int} (e : roE f t p = 0) : (0 ≤ f ∧ f ≤ 87) ∧ (0 ≤ t ∧ t ≤ 87) ∧ 0 ≤ p ∧ p ≤ 500 := by
  obtain ⟨h1, h2, h3⟩ := orV_three e
  exact ⟨rgE_in h1, rgE_in h2, rgE_in h3⟩
set_option maxRecDepth 100000 in
set_option maxHeartbeats 3200000 in
theorem checkOverpull_any (l : List (Int × Int × Int)) (a : Option Addr) (cap : Nat) (w : World) (hlen : l.length ≤ 1000) (hs : OvAt w a l) :
    Calls Tryd.prog 20 #[.slice a l.length cap] w fun e w' => e = .returned (.int .i64 (ovE l)) ∧ Below w.heap.size w w' := by
  have HS := Lib.hid hs; clear hs
  by_cases h20 : 20 < l.length
  · have HE := Lib.hid (show ovE l = 8 by unfold ovE; rw [if_pos h20])
    go_enter Tryd.func20, Tryd.ntmps20
    go_wp2
    go_ret
    exact ⟨ret_int (by rw [HE.out]), by (repeat' (first | (with_reducible exact Below.refl _ _) | (with_reducible assumption) | (with_reducible refine Below.drew ?_) | (with_reducible refine below_drewN ?_ _) | (with_reducible refine Below.setCell ?_ ?_ _) | (with_reducible refine Below.alloc ?_ ?_ _) | go_size | omega))⟩
  have HE := Lib.hid (show ovE l = ovF (pvo l 0) (l.drop 0) by unfold ovE; rw [if_neg h20]; rfl)
  go_enter Tryd.func20, Tryd.ntmps20
  go_wp2
  go_loopw [11] (fun i wr => ∃ k : Nat, k ≤ l.length ∧ i = .int .i64 k ∧ Hid (ovE l = ovF (pvo l k) (l.drop k)) ∧ Below w.heap.size w wr) (fun i _ => l.length - (intOf i).toNat)
  case atStart => exact ⟨0, by omega, rfl, HE, Below.refl _ _⟩
  case round =>
    obtain ⟨k, hk, rfl, HF, RB⟩ := hrel
    by_cases hlt : k < l.length
    · obtain ⟨b, o, rfl, hb, hcc⟩ : ∃ b o, a = some ⟨b, o, none⟩ ∧ b < wr.heap.size ∧ ∀ j (h : j < l.length), wr.cell? ⟨b, o + j * 3, none⟩ = some (.int .i64 (l[j]).1) ∧ wr.cell? ⟨b, o + j * 3 + 1, none⟩ = some (.int .i64 (l[j]).2.1) ∧ wr.cell? ⟨b, o + j * 3 + 2, none⟩ = some (.int .i64 (l[j]).2.2) := by
        rcases HS.out.keep RB with h | h
        · subst h; simp at hlt
        · exact h
      obtain ⟨c0, c1, c2⟩ := hcc k hlt
      have HD := Lib.hid (ovF_drop hlt (pvo l k))
      have HT := Lib.hid (show ∃ f t p, l[k] = (f, t, p) from ⟨_, _, _, rfl⟩)
      obtain ⟨f, t, p, hdh⟩ := HT.out
      rw [hdh] at c0 c1 c2 HD
      have HP := Lib.hid (show pvo l (k + 1) = t by simp [pvo, List.getD_eq_getElem?_getD, List.getElem?_eq_getElem hlt, hdh])
      have HCC := Lib.hid hcc
      clear hdh HT hcc
      have HV := Lib.hid (show ∃ x, roE f t p = x from ⟨_, rfl⟩)
      obtain ⟨x, hx⟩ := HV.out
      have CF := Lib.hid (fun v => noteErr_any f v); have CT := Lib.hid (fun v => noteErr_any t v); have CP := Lib.hid (fun v => rangeError_any p 0 500 v)
      have CO := Lib.hid (fun v b (hh : RowAt v b [rgE f 0 87, rgE t 0 87, rgE p 0 500]) => (show Calls Tryd.prog 70 #[.slice (some ⟨b, 0, none⟩) 3 3] v fun e w' => e = .returned (.int .i64 x) ∧ w' = v from by
        have h := or_any b 3 [rgE f 0 87, rgE t 0 87, rgE p 0 500] v (by simp) hh
        rw [show orV [rgE f 0 87, rgE t 0 87, rgE p 0 500] = x from hx] at h
        exact h))
      simp only [hx] at HD
      have HX := Lib.hid hx; clear hx HV
      have zr := RB.size
      go_wp2_with fail
      have D1 := Lib.hid (Box.new wr #[.int .i64 f, .int .i64 t, .int .i64 p] 112 (n := wr.heap.size) rfl)
      have B1 : Below w.heap.size w (wr.alloc (.cells #[.int .i64 f, .int .i64 t, .int .i64 p] 112)) := by (repeat' (first | (with_reducible exact Below.refl _ _) | (with_reducible assumption) | (with_reducible refine Below.drew ?_) | (with_reducible refine below_drewN ?_ _) | (with_reducible refine Below.setCell ?_ ?_ _) | (with_reducible refine Below.alloc ?_ ?_ _) | go_size | omega))
      have K1 : Below wr.heap.size wr (wr.alloc (.cells #[.int .i64 f, .int .i64 t, .int .i64 p] 112)) := by (repeat' (first | (with_reducible exact Below.refl _ _) | (with_reducible assumption) | (with_reducible refine Below.drew ?_) | (with_reducible refine below_drewN ?_ _) | (with_reducible refine Below.setCell ?_ ?_ _) | (with_reducible refine Below.alloc ?_ ?_ _) | go_size | omega))
      generalize (wr.alloc (.cells #[.int .i64 f, .int .i64 t, .int .i64 p] 112)) = u at *
      obtain ⟨k0, k1, k2, -⟩ := D1.out.three
      have ld := D1.out.lt
      go_still_tail 9, (by kernel_rfl)
      repeat still_step
      still_call (CF.out _)
      repeat still_step
      still_call (CT.out _)
      repeat still_step
      still_call (CP.out _)
      repeat still_step
      refine wpStill_nil ?_
      clear CF CT CP
      go_wp2_with fail
      refine (CO.out ((u.alloc (.cells #[.int .i64 (rgE f 0 87), .int .i64 (rgE t 0 87), .int .i64 (rgE p 0 500)] 23)).drew) u.heap.size (RowAt.of_box (Box.new u _ 23 (n := u.heap.size) rfl).drew)).mono ?_
      rintro e w2 ⟨rfl, hw2⟩
      have D2 := Lib.hid (show Box w2 wr.heap.size #[.int .i64 f, .int .i64 t, .int .i64 p] 112 by rw [hw2]; exact D1.out.alloc _)
      have B2 : Below w.heap.size w w2 := by rw [hw2]; (repeat' (first | (with_reducible exact Below.refl _ _) | (with_reducible assumption) | (with_reducible refine Below.drew ?_) | (with_reducible refine below_drewN ?_ _) | (with_reducible refine Below.setCell ?_ ?_ _) | (with_reducible refine Below.alloc ?_ ?_ _) | go_size | omega))
      have HK2 := Lib.hid (show Below wr.heap.size wr w2 by rw [hw2]; (repeat' (first | (with_reducible exact Below.refl _ _) | (with_reducible assumption) | (with_reducible refine Below.drew ?_) | (with_reducible refine below_drewN ?_ _) | (with_reducible refine Below.setCell ?_ ?_ _) | (with_reducible refine Below.alloc ?_ ?_ _) | go_size | omega)))
      clear hw2 CO D1 K1 k0 k1 k2 ld B1
      obtain ⟨d0, d1, d2, -⟩ := D2.out.three
      have ld := D2.out.lt
      have z2 := HK2.out.size
      by_cases hz : x = 0
      · subst hz
        by_cases htf : t < f
        · have HF2 := Lib.hid (show ovE l = 9 by rw [HF.out, HD.out, if_neg (by simp), if_pos (.inl htf)])
          go_wp2_with fail
          go_quiet (fail)
          go_wp2_with fail
          go_ret
          exact ⟨ret_int (by rw [HF2.out]), by (repeat' (first | (with_reducible exact Below.refl _ _) | (with_reducible assumption) | (with_reducible refine Below.drew ?_) | (with_reducible refine below_drewN ?_ _) | (with_reducible refine Below.setCell ?_ ?_ _) | (with_reducible refine Below.alloc ?_ ?_ _) | go_size | omega))⟩
        · have htf' : decide (t < f) = false := by simpa using htf
          by_cases hk0 : 0 < k
          · obtain ⟨j, rfl⟩ : ∃ j, k = j + 1 := ⟨k - 1, by omega⟩
            have hkd : decide (0 < j + 1) = true := by simp
            obtain ⟨-, p0, -⟩ := HCC.out j (by omega)
            have HQ := Lib.hid (show ∃ q, (l.getD j (0, 0, 0)).2.1 = q from ⟨_, rfl⟩)
            obtain ⟨q, hq⟩ := HQ.out
            have HPQ := Lib.hid (show pvo l (j + 1) = q from hq)
            have p0 : w2.cell? ⟨b, o + j * 3 + 1, none⟩ = some (.int .i64 q) := by
              rw [HK2.out.cell (p := ⟨b, o + j * 3 + 1, none⟩) hb, p0, ← hq]; simp [List.getD_eq_getElem?_getD, List.getElem?_eq_getElem (show j < l.length by omega)]
            have hb2 : b < w2.heap.size := by omega
            have hpos : (0 : Int) < (j : Int) + 1 := by omega
            have W1 : IntKind.i64.wrap ((j : Int) + 1 - 1) = (j : Int) := by rw [show (j : Int) + 1 - 1 = j by omega]; exact IntWalk.i64_in _ (by omega)
            rw [show (((j + 1 : Nat)) : Int) = (j : Int) + 1 by omega]
            clear hq HQ
            go_wp2_with fail
            by_cases hdq : f ≤ q
            · have HF2 := Lib.hid (show ovE l = 9 by rw [HF.out, HD.out, if_neg (by simp), if_pos (.inr (by rw [HPQ.out]; exact hdq))])
              go_quiet (fail)
              go_wp2_with fail
              go_ret
              exact ⟨ret_int (by rw [HF2.out]), by (repeat' (first | (with_reducible exact Below.refl _ _) | (with_reducible assumption) | (with_reducible refine Below.drew ?_) | (with_reducible refine below_drewN ?_ _) | (with_reducible refine Below.setCell ?_ ?_ _) | (with_reducible refine Below.alloc ?_ ?_ _) | go_size | omega))⟩
            · have HF2 := Lib.hid (show ovE l = ovF t (l.drop (j + 1 + 1)) by rw [HF.out, HD.out, if_neg (by simp), if_neg (by rw [HPQ.out]; omega)])
              go_quiet (fail)
              go_wp2_with fail
              go_roundw
              case rel => exact ⟨j + 1 + 1, by omega, by go_num, Lib.hid (by rw [HF2.out, HP.out]), by (repeat' (first | (with_reducible exact Below.refl _ _) | (with_reducible assumption) | (with_reducible refine Below.drew ?_) | (with_reducible refine below_drewN ?_ _) | (with_reducible refine Below.setCell ?_ ?_ _) | (with_reducible refine Below.alloc ?_ ?_ _) | go_size | omega))⟩
              case measure => simp [intOf]; omega
          · obtain rfl : k = 0 := by omega
            have HF2 := Lib.hid (show ovE l = ovF t (l.drop (0 + 1)) by
              have := (roE_ok HX.out).1
              rw [HF.out, HD.out, if_neg (by simp), if_neg (by show ¬ (t < f ∨ f ≤ -1); omega)])
            go_wp2_with fail
            go_quiet (fail)
            go_wp2_with fail
            go_roundw
            case rel => exact ⟨0 + 1, by omega, by go_num, Lib.hid (by rw [HF2.out, HP.out]), by (repeat' (first | (with_reducible exact Below.refl _ _) | (with_reducible assumption) | (with_reducible refine Below.drew ?_) | (with_reducible refine below_drewN ?_ _) | (with_reducible refine Below.setCell ?_ ?_ _) | (with_reducible refine Below.alloc ?_ ?_ _) | go_size | omega))⟩
            case measure => simp [intOf]; omega
      · have hz' : (x != 0) = true := by simpa using hz
        have HZ := Lib.hid hz; clear hz
        have HF2 := Lib.hid (show ovE l = x by rw [HF.out, HD.out, if_pos HZ.out])
        go_wp2_with fail
        go_ret
        exact ⟨ret_int (by rw [HF2.out]), by (repeat' (first | (with_reducible exact Below.refl _ _) | (with_reducible assumption) | (with_reducible refine Below.drew ?_) | (with_reducible refine below_drewN ?_ _) | (with_reducible refine Below.setCell ?_ ?_ _) | (with_reducible refine Below.alloc ?_ ?_ _) | go_size | omega))⟩
    · obtain rfl : k = l.length := by omega
      have HF2 := Lib.hid (show ovE l = 0 by rw [HF.out]; simp [ovF])
      go_wp2_with fail
      go_ret
      exact ⟨ret_int (by rw [HF2.out]), by (repeat' (first | (with_reducible exact Below.refl _ _) | (with_reducible assumption) | (with_reducible refine Below.drew ?_) | (with_reducible refine below_drewN ?_ _) | (with_reducible refine Below.setCell ?_ ?_ _) | (with_reducible refine Below.alloc ?_ ?_ _) | go_size | omega))⟩
end Go.Proofs.YtnjlifmjjihahaaDoor
