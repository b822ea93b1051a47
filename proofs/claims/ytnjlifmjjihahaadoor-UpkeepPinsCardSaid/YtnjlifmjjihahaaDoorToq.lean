/-
  Torques: CheckTorques and its reference. No condition but the length.
-/
import Derived.Test.YtnjlifmjjihahaaDoorCor
import Derived.StillTailTactics
import Derived.BigQuiet
namespace Go.Proofs.YtnjlifmjjihahaaDoor
open Go Go.RowKit
/-- the error of a record -/
def tqE (d f : Int) : Int := orV [rgE d 0 100000, rgE f 0 100000]
/-- records at a slice: the day, the force -/
def TqAt (w : World) (a : Option Addr) (l : List (Int × Int)) : Prop := l = [] ∨ ∃ b o, a = some ⟨b, o, none⟩ ∧ b < w.heap.size ∧ ∀ j (h : j < l.length),
  w.cell? ⟨b, o + j * 2, none⟩ = some (.int .i64 (l[j]).1) ∧ w.cell? ⟨b, o + j * 2 + 1, none⟩ = some (.int .i64 (l[j]).2)
theorem TqAt.keep {w w' : World} {a : Option Addr} {l : List (Int × Int)} (h : TqAt w a l) (hb : Below w.heap.size w w') : TqAt w' a l := by
  rcases h with h | ⟨b, o, e, hl, hc⟩
  · exact .inl h
  · exact .inr ⟨b, o, e, Nat.lt_of_lt_of_le hl hb.size, fun j hj => ⟨(hb.cell (p := ⟨b, _, none⟩) hl).trans (hc j hj).1, (hb.cell (p := ⟨b, _, none⟩) hl).trans (hc j hj).2⟩⟩
theorem TqAt.at {w : World} {a : Option Addr} {l : List (Int × Int)} (h : TqAt w a l) {k : Nat} (hk : k < l.length) : ∃ b o d f, a = some ⟨b, o, none⟩ ∧ b < w.heap.size ∧ l[k] = (d, f) ∧
    w.cell? ⟨b, o + k * 2, none⟩ = some (.int .i64 d) ∧ w.cell? ⟨b, o + k * 2 + 1, none⟩ = some (.int .i64 f) := by
  rcases h with h | ⟨b, o, e, hl, hc⟩
  · subst h; simp at hk
  · exact ⟨b, o, _, _, e, hl, rfl, (hc k hk).1, (hc k hk).2⟩
/-- the error of records behind one of the day p -/
def tqF : Int → List (Int × Int) → Int
  | _, [] => 0
  | p, x :: l => if tqE x.1 x.2 ≠ 0 then tqE x.1 x.2 else if x.1 ≤ p then 9 else tqF x.1 l
def tqsE (l : List (Int × Int)) : Int := if 60 < l.length then 8 else tqF (-1) l
theorem tqF_drop {l : List (Int × Int)} {k : Nat} (h : k < l.length) (p : Int) : tqF p (l.drop k) = if tqE (l[k]).1 (l[k]).2 ≠ 0 then tqE (l[k]).1 (l[k]).2 else if (l[k]).1 ≤ p then 9 else tqF (l[k]).1 (l.drop (k + 1)) := by
  rw [List.drop_eq_getElem_cons h]; rfl
/-- the day before the k-th record -/
def pvt (l : List (Int × Int)) : Nat → Int
  | 0 => -1
  | k + 1 => (l.getD k (0, 0)).1
theorem rgE_in {n lo hi : Int} (e : rgE n lo hi = 0) : lo ≤ n ∧ n ≤ hi := by
  unfold rgE inR at e
  by_cases h : lo ≤ n ∧ n ≤ hi
  · exact h
  · rw [decide_eq_false h] at e; simp at e
theorem orV_two {a b : Int} (h : orV [a, b] = 0) : a = 0 ∧ b = 0 := by
  unfold orV at h
  by_cases ha : a = 0 <;> by_cases hb : b = 0 <;> simp [orV, ha, hb] at h ⊢
theorem tqE_ok {d f : Int} (e : tqE d f = 0) : (0 ≤ d ∧ d ≤ 100000) ∧ 0 ≤ f ∧ f ≤ 100000 := by
  obtain ⟨h1, h2⟩ := orV_two e
  exact ⟨rgE_in h1, rgE_in h2⟩
theorem tqE_if (d f : Int) : tqE d f = if inR d 0 100000 = true ∧ inR f 0 100000 = true then 0 else 2 := by
  unfold tqE rgE
  cases inR d 0 100000 <;> cases inR f 0 100000 <;> rfl
set_option maxRecDepth 100000 in
set_option maxHeartbeats 3200000 in
theorem checkTorques_any (l : List (Int × Int)) (a : Option Addr) (cap : Nat) (w : World) (hlen : l.length ≤ 1000) (hs : TqAt w a l) :
    Calls Tryd.prog 23 #[.slice a l.length cap] w fun e w' => e = .returned (.int .i64 (tqsE l)) ∧ Below w.heap.size w w' := by
  have HS := Lib.hid hs; clear hs
  by_cases h60 : 60 < l.length
  · have HE := Lib.hid (show tqsE l = 8 by unfold tqsE; rw [if_pos h60])
    go_enter Tryd.func23, Tryd.ntmps23
    go_wp2
    go_ret
    exact ⟨ret_int (by rw [HE.out]), by (repeat' (first | (with_reducible exact Below.refl _ _) | (with_reducible assumption) | (with_reducible refine Below.drew ?_) | (with_reducible refine below_drewN ?_ _) | (with_reducible refine Below.setCell ?_ ?_ _) | (with_reducible refine Below.alloc ?_ ?_ _) | go_size | omega))⟩
  have HE := Lib.hid (show tqsE l = tqF (pvt l 0) (l.drop 0) by unfold tqsE; rw [if_neg h60]; rfl)
  go_enter Tryd.func23, Tryd.ntmps23
  go_wp2
  go_loopw [11] (fun i wr => ∃ k : Nat, k ≤ l.length ∧ i = .int .i64 k ∧ Hid (tqsE l = tqF (pvt l k) (l.drop k)) ∧ Below w.heap.size w wr) (fun i _ => l.length - (intOf i).toNat)
  case atStart => exact ⟨0, by omega, rfl, HE, Below.refl _ _⟩
  case round =>
    obtain ⟨k, hk, rfl, HF, RB⟩ := hrel
    by_cases hlt : k < l.length
    · have HST := Lib.hid (HS.out.keep RB)
      obtain ⟨b, o, d, f, rfl, hb, he, c0, c1⟩ := HST.out.at hlt
      have HD := Lib.hid (tqF_drop hlt (pvt l k))
      rw [he] at HD
      have HP := Lib.hid (show pvt l (k + 1) = d by simp [pvt, List.getD_eq_getElem?_getD, List.getElem?_eq_getElem hlt, he])
      clear he
      have HV := Lib.hid (show ∃ x, tqE d f = x from ⟨_, rfl⟩)
      obtain ⟨x, hx⟩ := HV.out
      have CF := Lib.hid (fun v => dayErr_any d v); have CT := Lib.hid (fun v => forceErr_any f v)
      have CO := Lib.hid (fun v b (hh : RowAt v b [rgE d 0 100000, rgE f 0 100000]) => (show Calls Tryd.prog 70 #[.slice (some ⟨b, 0, none⟩) 2 2] v fun e w' => e = .returned (.int .i64 x) ∧ w' = v from by
        have h := or_any b 2 [rgE d 0 100000, rgE f 0 100000] v (by simp) hh
        rw [show orV [rgE d 0 100000, rgE f 0 100000] = x from hx] at h
        exact h))
      simp only [hx] at HD
      have HX := Lib.hid hx; clear hx HV
      have zr := RB.size
      go_wp2_with fail
      have D1 := Lib.hid (Box.new wr #[.int .i64 d, .int .i64 f] 114 (n := wr.heap.size) rfl)
      have B1 : Below w.heap.size w (wr.alloc (.cells #[.int .i64 d, .int .i64 f] 114)) := by (repeat' (first | (with_reducible exact Below.refl _ _) | (with_reducible assumption) | (with_reducible refine Below.drew ?_) | (with_reducible refine below_drewN ?_ _) | (with_reducible refine Below.setCell ?_ ?_ _) | (with_reducible refine Below.alloc ?_ ?_ _) | go_size | omega))
      have K1 : Below wr.heap.size wr (wr.alloc (.cells #[.int .i64 d, .int .i64 f] 114)) := by (repeat' (first | (with_reducible exact Below.refl _ _) | (with_reducible assumption) | (with_reducible refine Below.drew ?_) | (with_reducible refine below_drewN ?_ _) | (with_reducible refine Below.setCell ?_ ?_ _) | (with_reducible refine Below.alloc ?_ ?_ _) | go_size | omega))
      generalize (wr.alloc (.cells #[.int .i64 d, .int .i64 f] 114)) = u at *
      obtain ⟨k0, k1, -⟩ := D1.out.two
      have ld := D1.out.lt
      go_still_tail 6, (by kernel_rfl)
      repeat still_step
      still_call (CF.out _)
      repeat still_step
      still_call (CT.out _)
      repeat still_step
      refine wpStill_nil ?_
      clear CF CT
      go_wp2_with fail
      refine (CO.out ((u.alloc (.cells #[.int .i64 (rgE d 0 100000), .int .i64 (rgE f 0 100000)] 23)).drew) u.heap.size (RowAt.of_box (Box.new u _ 23 (n := u.heap.size) rfl).drew)).mono ?_
      rintro e w2 ⟨rfl, hw2⟩
      have D2 := Lib.hid (show Box w2 wr.heap.size #[.int .i64 d, .int .i64 f] 114 by rw [hw2]; exact D1.out.alloc _)
      have B2 : Below w.heap.size w w2 := by rw [hw2]; (repeat' (first | (with_reducible exact Below.refl _ _) | (with_reducible assumption) | (with_reducible refine Below.drew ?_) | (with_reducible refine below_drewN ?_ _) | (with_reducible refine Below.setCell ?_ ?_ _) | (with_reducible refine Below.alloc ?_ ?_ _) | go_size | omega))
      have HK2 := Lib.hid (show Below wr.heap.size wr w2 by rw [hw2]; (repeat' (first | (with_reducible exact Below.refl _ _) | (with_reducible assumption) | (with_reducible refine Below.drew ?_) | (with_reducible refine below_drewN ?_ _) | (with_reducible refine Below.setCell ?_ ?_ _) | (with_reducible refine Below.alloc ?_ ?_ _) | go_size | omega)))
      clear hw2 CO D1 K1 k0 k1 ld B1
      obtain ⟨d0, d1, -⟩ := D2.out.two
      have ld := D2.out.lt
      have z2 := HK2.out.size
      by_cases hz : x = 0
      · subst hz
        by_cases hk0 : 0 < k
        · obtain ⟨j, rfl⟩ : ∃ j, k = j + 1 := ⟨k - 1, by omega⟩
          have hkd : decide (0 < j + 1) = true := by simp
          obtain ⟨b', o', q, f', e', hb', he', p0, -⟩ := (HST.out.keep HK2.out).at (show j < l.length by omega)
          cases e'
          have HPQ := Lib.hid (show pvt l (j + 1) = q by simp [pvt, List.getD_eq_getElem?_getD, List.getElem?_eq_getElem (show j < l.length by omega), he'])
          have hpos : (0 : Int) < (j : Int) + 1 := by omega
          have W1 : IntKind.i64.wrap ((j : Int) + 1 - 1) = (j : Int) := by rw [show (j : Int) + 1 - 1 = j by omega]; exact IntWalk.i64_in _ (by omega)
          rw [show (((j + 1 : Nat)) : Int) = (j : Int) + 1 by omega]
          clear he'
          go_wp2_with fail
          by_cases hdq : d ≤ q
          · have HF2 := Lib.hid (show tqsE l = 9 by rw [HF.out, HD.out, if_neg (by simp), if_pos (by rw [HPQ.out]; exact hdq)])
            go_quiet (fail)
            go_wp2_with fail
            go_ret
            exact ⟨ret_int (by rw [HF2.out]), by (repeat' (first | (with_reducible exact Below.refl _ _) | (with_reducible assumption) | (with_reducible refine Below.drew ?_) | (with_reducible refine below_drewN ?_ _) | (with_reducible refine Below.setCell ?_ ?_ _) | (with_reducible refine Below.alloc ?_ ?_ _) | go_size | omega))⟩
          · have HF2 := Lib.hid (show tqsE l = tqF d (l.drop (j + 1 + 1)) by rw [HF.out, HD.out, if_neg (by simp), if_neg (by rw [HPQ.out]; omega)])
            go_quiet (fail)
            go_wp2_with fail
            go_roundw
            case rel => exact ⟨j + 1 + 1, by omega, by go_num, Lib.hid (by rw [HF2.out, HP.out]), by (repeat' (first | (with_reducible exact Below.refl _ _) | (with_reducible assumption) | (with_reducible refine Below.drew ?_) | (with_reducible refine below_drewN ?_ _) | (with_reducible refine Below.setCell ?_ ?_ _) | (with_reducible refine Below.alloc ?_ ?_ _) | go_size | omega))⟩
            case measure => simp [intOf]; omega
        · obtain rfl : k = 0 := by omega
          have HF2 := Lib.hid (show tqsE l = tqF d (l.drop (0 + 1)) by
            have := (tqE_ok HX.out).1
            rw [HF.out, HD.out, if_neg (by simp), if_neg (by show ¬ d ≤ -1; omega)])
          go_wp2_with fail
          go_quiet (fail)
          go_wp2_with fail
          go_roundw
          case rel => exact ⟨0 + 1, by omega, by go_num, Lib.hid (by rw [HF2.out, HP.out]), by (repeat' (first | (with_reducible exact Below.refl _ _) | (with_reducible assumption) | (with_reducible refine Below.drew ?_) | (with_reducible refine below_drewN ?_ _) | (with_reducible refine Below.setCell ?_ ?_ _) | (with_reducible refine Below.alloc ?_ ?_ _) | go_size | omega))⟩
          case measure => simp [intOf]; omega
      · have hz' : (x != 0) = true := by simpa using hz
        have HZ := Lib.hid hz; clear hz
        have HF2 := Lib.hid (show tqsE l = x by rw [HF.out, HD.out, if_pos HZ.out])
        go_wp2_with fail
        go_ret
        exact ⟨ret_int (by rw [HF2.out]), by (repeat' (first | (with_reducible exact Below.refl _ _) | (with_reducible assumption) | (with_reducible refine Below.drew ?_) | (with_reducible refine below_drewN ?_ _) | (with_reducible refine Below.setCell ?_ ?_ _) | (with_reducible refine Below.alloc ?_ ?_ _) | go_size | omega))⟩
    · obtain rfl : k = l.length := by omega
      have HF2 := Lib.hid (show tqsE l = 0 by rw [HF.out]; simp [tqF])
      go_wp2_with fail
      go_ret
      exact ⟨ret_int (by rw [HF2.out]), by (repeat' (first | (with_reducible exact Below.refl _ _) | (with_reducible assumption) | (with_reducible refine Below.drew ?_) | (with_reducible refine below_drewN ?_ _) | (with_reducible refine Below.setCell ?_ ?_ _) | (with_reducible refine Below.alloc ?_ ?_ _) | go_size | omega))⟩
end Go.Proofs.YtnjlifmjjihahaaDoor
