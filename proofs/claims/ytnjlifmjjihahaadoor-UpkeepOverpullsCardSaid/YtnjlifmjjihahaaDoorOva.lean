/-
  The overpull of a note: overpullAt, OverpullAt, and the reference's. No condition but the length.
-/
import Derived.Test.YtnjlifmjjihahaaDoorOvp
namespace Go.Proofs.YtnjlifmjjihahaaDoor
open Go Go.RowKit
/-- the per mille of the first line that holds the note -/
def ovN (note : Int) : List (Int × Int × Int) → Int
  | [] => 0
  | x :: l => if inR note x.1 x.2.1 = true then x.2.2 else ovN note l
theorem ovN_drop {l : List (Int × Int × Int)} {k : Nat} (h : k < l.length) (note : Int) : ovN note (l.drop k) = if inR note (l[k]).1 (l[k]).2.1 = true then (l[k]).2.2 else ovN note (l.drop (k + 1)) := by
  rw [List.drop_eq_getElem_cons h]; rfl
theorem OvAt.at {w : World} {a : Option Addr} {l : List (Int × Int × Int)} (h : OvAt w a l) {k : Nat} (hk : k < l.length) : ∃ b o f t p, a = some ⟨b, o, none⟩ ∧ b < w.heap.size ∧ l[k] = (f, t, p) ∧
    w.cell? ⟨b, o + k * 3, none⟩ = some (.int .i64 f) ∧ w.cell? ⟨b, o + k * 3 + 1, none⟩ = some (.int .i64 t) ∧ w.cell? ⟨b, o + k * 3 + 2, none⟩ = some (.int .i64 p) := by
  rcases h with h | ⟨b, o, e, hl, hc⟩
  · subst h; simp at hk
  · exact ⟨b, o, _, _, _, e, hl, rfl, (hc k hk).1, (hc k hk).2.1, (hc k hk).2.2⟩
set_option maxRecDepth 100000 in
set_option maxHeartbeats 1600000 in
theorem overpullAt0_any (l : List (Int × Int × Int)) (a : Option Addr) (cap : Nat) (note : Int) (w : World) (hlen : l.length ≤ 1000) (hs : OvAt w a l) :
    Calls Tryd.prog 76 #[.slice a l.length cap, .int .i64 note] w fun e w' => e = .returned (.int .i64 (ovN note l)) ∧ Below w.heap.size w w' := by
  have HS := Lib.hid hs; clear hs
  have HE := Lib.hid (show ovN note l = ovN note (l.drop 0) from rfl)
  go_enter Tryd.func76, Tryd.ntmps76
  go_wp2
  go_loopw [9] (fun i wr => ∃ k : Nat, k ≤ l.length ∧ i = .int .i64 k ∧ Hid (ovN note l = ovN note (l.drop k)) ∧ Below w.heap.size w wr) (fun i _ => l.length - (intOf i).toNat)
  case atStart => exact ⟨0, by omega, rfl, HE, Below.refl _ _⟩
  case round =>
    obtain ⟨k, hk, rfl, HF, RB⟩ := hrel
    by_cases hlt : k < l.length
    · obtain ⟨b, o, f, t, p, rfl, hb, he, c0, c1, c2⟩ := (HS.out.keep RB).at hlt
      have HD := Lib.hid (ovN_drop hlt note)
      rw [he] at HD
      have HB := Lib.hid (show ∃ x, inR note f t = x from ⟨_, rfl⟩)
      obtain ⟨x, hx⟩ := HB.out
      have CB := Lib.hid (fun v => between_any note f t v)
      rw [hx] at CB
      simp only [hx] at HD
      clear hx HB he
      have zr := RB.size
      cases x with
      | true =>
        go_wp2_with (go_at_call 110; refine (CB.out _).mono ?_; rintro e w' ⟨rfl, rfl⟩)
        go_ret
        exact ⟨ret_int (by rw [HF.out, HD.out]; rfl), by (repeat' (first | (with_reducible exact Below.refl _ _) | (with_reducible assumption) | (with_reducible refine Below.drew ?_) | (with_reducible refine below_drewN ?_ _) | (with_reducible refine Below.setCell ?_ ?_ _) | (with_reducible refine Below.alloc ?_ ?_ _) | go_size | omega))⟩
      | false =>
        go_wp2_with (go_at_call 110; refine (CB.out _).mono ?_; rintro e w' ⟨rfl, rfl⟩)
        go_roundw
        case rel => exact ⟨k + 1, by omega, by go_num, Lib.hid (by rw [HF.out, HD.out]; rfl), by (repeat' (first | (with_reducible exact Below.refl _ _) | (with_reducible assumption) | (with_reducible refine Below.drew ?_) | (with_reducible refine below_drewN ?_ _) | (with_reducible refine Below.setCell ?_ ?_ _) | (with_reducible refine Below.alloc ?_ ?_ _) | go_size | omega))⟩
        case measure => simp [intOf]; omega
    · obtain rfl : k = l.length := by omega
      go_wp2_with fail
      go_ret
      exact ⟨ret_int (by rw [HF.out]; simp [ovN]), RB⟩
/-- the error of the arguments, and the answer -/
def oaE (l : List (Int × Int × Int)) (note : Int) : Int := orV [ovE l, rgE note 0 87]
def oaV (l : List (Int × Int × Int)) (note : Int) : Int × Int := if oaE l note = 0 then (ovN note l, 0) else (0, oaE l note)
set_option maxRecDepth 100000 in
set_option maxHeartbeats 1600000 in
theorem overpullAt_any (l : List (Int × Int × Int)) (a : Option Addr) (cap : Nat) (note : Int) (w : World) (hlen : l.length ≤ 1000) (hs : OvAt w a l) :
    Calls Tryd.prog 18 #[.slice a l.length cap, .int .i64 note] w fun e w' => e = .returned (.tuple #[.int .i64 (oaV l note).1, .int .i64 (oaV l note).2]) ∧ Below w.heap.size w w' := by
  have HS := Lib.hid hs; clear hs
  have HE := Lib.hid (show ∃ x, oaE l note = x from ⟨_, rfl⟩)
  obtain ⟨e0, he0⟩ := HE.out
  have CO := Lib.hid (fun v b (h : RowAt v b [ovE l, rgE note 0 87]) => (show Calls Tryd.prog 70 #[.slice (some ⟨b, 0, none⟩) 2 2] v fun e w' => e = .returned (.int .i64 e0) ∧ w' = v from by
    have h := or_any b 2 [ovE l, rgE note 0 87] v (by simp) h
    rw [show orV [ovE l, rgE note 0 87] = e0 from he0] at h
    exact h))
  have H0 := Lib.hid he0; clear he0 HE
  go_enter Tryd.func18, Tryd.ntmps18
  go_wp2_with fail
  refine (checkOverpull_any l a cap w hlen HS.out).mono ?_
  rintro e w1 ⟨rfl, B1⟩
  have S1 := Lib.hid (HS.out.keep B1)
  have z1 := B1.size
  clear HS
  go_wp2_with (go_at_call 75; refine (noteErr_any _ _).mono ?_; rintro e w' ⟨rfl, hw'⟩; have hw' := hw'.symm; subst hw')
  refine (CO.out (w1.alloc (.cells #[.int .i64 (ovE l), .int .i64 (rgE note 0 87)] 23)) w1.heap.size (RowAt.of_box (Box.new w1 _ 23 (n := w1.heap.size) rfl))).mono ?_
  rintro e w2 ⟨rfl, hw2⟩
  have B2 : Below w.heap.size w w2 := by rw [hw2]; (repeat' (first | (with_reducible exact Below.refl _ _) | (with_reducible assumption) | (with_reducible refine Below.drew ?_) | (with_reducible refine below_drewN ?_ _) | (with_reducible refine Below.setCell ?_ ?_ _) | (with_reducible refine Below.alloc ?_ ?_ _) | go_size | omega))
  have S2 := Lib.hid (show OvAt w2 a l by rw [hw2]; exact S1.out.keep (by (repeat' (first | (with_reducible exact Below.refl _ _) | (with_reducible assumption) | (with_reducible refine Below.drew ?_) | (with_reducible refine below_drewN ?_ _) | (with_reducible refine Below.setCell ?_ ?_ _) | (with_reducible refine Below.alloc ?_ ?_ _) | go_size | omega))))
  have z2 := B2.size
  clear hw2 S1 CO B1
  by_cases hz : e0 = 0
  · subst hz
    have HV := Lib.hid (show oaV l note = (ovN note l, 0) by unfold oaV; rw [if_pos H0.out])
    go_wp2_with fail
    refine (overpullAt0_any l a cap note w2 hlen S2.out).mono ?_
    rintro e w3 ⟨rfl, h3⟩
    have B3 : Below w.heap.size w w3 := below_via B2 h3
    clear h3 S2
    go_wp2_with fail
    go_ret2
    exact ⟨by rw [HV.out]; rfl, B3⟩
  · have hz' : (e0 != 0) = true := by simpa using hz
    have HV := Lib.hid (show oaV l note = (0, e0) by unfold oaV; rw [if_neg (by rw [H0.out]; exact hz), H0.out])
    go_wp2_with fail
    go_ret2
    exact ⟨by rw [HV.out]; rfl, B2⟩
end Go.Proofs.YtnjlifmjjihahaaDoor
