/-
  Whether forces are right.
-/
import Derived.Test.YtahfliboanphkaaFcl
namespace Go.Proofs.Ytahfliboanphkaa
open Go.RowKit
def badP (p : Pf) : Bool := beyV 1000000 p.x p.y p.z || beyV 1000000000 p.p p.q p.r
def chkR : List Pf → Int
  | [] => 0
  | p :: t => if badP p then 2 else chkR t
theorem chkR_go {l : List Pf} {k : Nat} (hk : k < l.length) (h : badP l[k] = false) : chkR (l.drop (k + 1)) = chkR (l.drop k) := by
  rw [List.drop_eq_getElem_cons hk]
  show _ = (if badP l[k] then 2 else chkR (l.drop (k + 1)))
  rw [h]; rfl
theorem chkR_bad {l : List Pf} {k : Nat} (hk : k < l.length) (h : badP l[k] = true) : chkR (l.drop k) = 2 := by
  rw [List.drop_eq_getElem_cons hk]
  show (if badP l[k] then 2 else chkR (l.drop (k + 1))) = 2
  rw [h]; rfl
theorem chkR_no : ∀ {l : List Pf}, chkR l = 0 → ∀ p ∈ l, badP p = false
  | [], _, p, hp => by simp at hp
  | q :: t, h, p, hp => by
    unfold chkR at h
    cases hq : badP q
    · rw [hq] at h
      simp at h
      rcases List.mem_cons.1 hp with rfl | hp
      · exact hq
      · exact chkR_no h p hp
    · rw [hq] at h; simp at h
def chkP (l : List Pf) : Int := if 300 < l.length then 8 else chkR l
def CkRel (l : List Pf) (w : World) (v : Value) (wr : World) : Prop :=
  ∃ k : Nat, k ≤ l.length ∧ v = .int .i64 (k : Int) ∧ chkR (l.drop k) = chkR l ∧ Below w.heap.size w wr
set_option maxRecDepth 100000 in
set_option maxHeartbeats 1600000 in
theorem rchkP_any (l : List Pf) (a : Option Addr) (cap : Nat) (w : World) (hl : l.length ≤ 9223372036854775807) (hp : PlAt w a l) :
    Calls Try.prog 12 #[.slice a l.length cap] w fun e w' => e = .returned (.int .i64 (chkP l)) ∧ Below w.heap.size w w' := by
  by_cases h1 : (300 : Int) < l.length
  · have F := Lib.hid (show chkP l = 8 by unfold chkP; rw [if_pos (by omega)])
    go_enter Try.func12, Try.ntmps12
    go_wp2_with fail
    go_ret
    exact ⟨ret_int (by rw [F.out]), by (repeat' (first | (with_reducible exact Below.refl _ _) | (with_reducible assumption) | (with_reducible refine Below.drew ?_) | (with_reducible refine below_drewN ?_ _) | (with_reducible refine Below.setCell ?_ ?_ _) | (with_reducible refine Below.alloc ?_ ?_ _) | go_size | omega))⟩
  · have F := Lib.hid (show chkP l = chkR l by unfold chkP; rw [if_neg (by omega)])
    have HP := Lib.hid hp; clear hp
    go_enter Try.func12, Try.ntmps12
    go_wp2_with fail
    go_loopw [3] (CkRel l w) (fun i _ => l.length - (intOf i).toNat)
    case atStart => exact ⟨0, by omega, rfl, by rw [List.drop_zero], Below.refl _ _⟩
    case round =>
      obtain ⟨k, hk, rfl, hd, hB⟩ := hrel
      have HD := Lib.hid hd; clear hd
      have zr := hB.size
      by_cases hkl : k < l.length
      · rcases HP.out.keep hB with h0 | ⟨b, o, rfl, hbl, hc⟩
        · rw [h0] at hkl; simp at hkl
        obtain ⟨c0, c1, c2, c3, c4, c5⟩ := hc k hkl
        clear hc
        rcases hlk : l[k] with ⟨x, y, z, p, q, r⟩
        rw [hlk] at c0 c1 c2 c3 c4 c5
        have HV := Lib.hid hlk; clear hlk
        dsimp only at c0 c1 c2 c3 c4 c5
        have CA := Lib.hid (fun u => risPlace_any x y z u)
        have CB := Lib.hid (fun u => size3_any p q r 1000000000 u (by omega) (by omega))
        rw [szB_bey] at CA CB
        cases hb1 : beyV 1000000 x y z
        · cases hb2 : beyV 1000000000 p q r
          all_goals
            have hby := (show badP l[k] = (beyV 1000000 x y z || beyV 1000000000 p q r) by rw [HV.out]; rfl)
            rw [hb1, hb2] at hby
            have HBY := Lib.hid hby
            rw [hb1] at CA; rw [hb2] at CB; clear hb1 hb2 hby
            go_wp2_with fail
            refine (CA.out _).mono ?_
            rintro e w1 ⟨rfl, h⟩
            have B1 := below_via hB h
            have z1 := h.size
            have d3 := ((bcell h).1 b _ hbl).trans c3; have d4 := ((bcell h).1 b _ hbl).trans c4; have d5 := ((bcell h).1 b _ hbl).trans c5
            clear h c0 c1 c2 c3 c4 c5
            go_wp2_with fail
            refine (CB.out _).mono ?_
            rintro e w2 ⟨rfl, h⟩
            have B2 := below_via B1 h
            clear h d3 d4 d5
            go_wp2_with fail
          · go_roundw
            case rel => exact ⟨k + 1, by omega, by simp, by rw [chkR_go hkl HBY.out]; exact HD.out, B2⟩
            case measure => simp [intOf]; omega
          · go_ret
            exact ⟨ret_int (by rw [F.out, ← HD.out, chkR_bad hkl HBY.out]), B2⟩
        · have HBY := Lib.hid (show badP l[k] = true by rw [HV.out]; unfold badP; dsimp only; rw [hb1, Bool.true_or])
          rw [hb1] at CA; clear hb1 CB
          go_wp2_with fail
          refine (CA.out _).mono ?_
          rintro e w1 ⟨rfl, h⟩
          have B1 := below_via hB h
          clear h c0 c1 c2 c3 c4 c5
          go_wp2_with fail
          go_ret
          exact ⟨ret_int (by rw [F.out, ← HD.out, chkR_bad hkl HBY.out]), B1⟩
      · obtain rfl : k = l.length := by omega
        go_wp2_with fail
        go_ret
        exact ⟨ret_int (by rw [F.out, ← HD.out, List.drop_length]; rfl), hB⟩
theorem vecs_one (w : World) (a0 a1 a2 : Int) : VecsAt (w.alloc (.cells #[.int .i64 a0, .int .i64 a1, .int .i64 a2] 91)) w.heap.size 0 [⟨a0, a1, a2⟩] := by
  have B : Box (w.alloc (.cells #[.int .i64 a0, .int .i64 a1, .int .i64 a2] 91)) w.heap.size #[.int .i64 a0, .int .i64 a1, .int .i64 a2] 91 := Box.new _ _ _ rfl
  refine ⟨B.lt, fun j hj => ?_⟩
  match j, hj with
  | 0, _ => exact ⟨B.cell 0, B.cell 1, B.cell 2⟩
theorem plErr_one (x y z : Int) : plErr [⟨x, y, z⟩] = if beyV 1000000 x y z then 2 else 0 := rfl
set_option maxRecDepth 100000 in
set_option maxHeartbeats 1600000 in
theorem chkP_any (l : List Pf) (a : Option Addr) (cap : Nat) (w : World) (hl : l.length ≤ 9223372036854775807) (hp : PlAt w a l) :
    Calls Try.prog 51 #[.slice a l.length cap] w fun e w' => e = .returned (.int .i64 (chkP l)) ∧ Below w.heap.size w w' := by
  by_cases h1 : (300 : Int) < l.length
  · have F := Lib.hid (show chkP l = 8 by unfold chkP; rw [if_pos (by omega)])
    go_enter Try.func51, Try.ntmps51
    go_wp2_with fail
    go_ret
    exact ⟨ret_int (by rw [F.out]), by (repeat' (first | (with_reducible exact Below.refl _ _) | (with_reducible assumption) | (with_reducible refine Below.drew ?_) | (with_reducible refine below_drewN ?_ _) | (with_reducible refine Below.setCell ?_ ?_ _) | (with_reducible refine Below.alloc ?_ ?_ _) | go_size | omega))⟩
  · have F := Lib.hid (show chkP l = chkR l by unfold chkP; rw [if_neg (by omega)])
    have HP := Lib.hid hp; clear hp
    go_enter Try.func51, Try.ntmps51
    go_wp2_with fail
    go_loopw [11] (CkRel l w) (fun i _ => l.length - (intOf i).toNat)
    case atStart => exact ⟨0, by omega, rfl, by rw [List.drop_zero], Below.refl _ _⟩
    case round =>
      obtain ⟨k, hk, rfl, hd, hB⟩ := hrel
      have HD := Lib.hid hd; clear hd
      have zr := hB.size
      by_cases hkl : k < l.length
      · rcases HP.out.keep hB with h0 | ⟨b, o, rfl, hbl, hc⟩
        · rw [h0] at hkl; simp at hkl
        obtain ⟨c0, c1, c2, c3, c4, c5⟩ := hc k hkl
        clear hc
        rcases hlk : l[k] with ⟨x, y, z, p, q, r⟩
        rw [hlk] at c0 c1 c2 c3 c4 c5
        have HV := Lib.hid hlk; clear hlk
        dsimp only at c0 c1 c2 c3 c4 c5
        have CA := Lib.hid (fun (u : World) (b o : Nat) (h : VecsAt u b o [⟨x, y, z⟩]) => placeError_any b o 1 [⟨x, y, z⟩] u h (by simp))
        rw [plErr_one] at CA
        have C2 := Lib.hid (fun (c : Nat) (v : World) (hcl : c < v.heap.size) (hc : v.cell? ⟨c, 0, none⟩ = some (.int .i64 1000000000)) => hasOne_any 1000000000 p q r c v (by omega) (by omega) hcl hc)
        cases hb1 : beyV 1000000 x y z
        · cases hb2 : beyV 1000000000 p q r
          all_goals
            have hby := (show badP l[k] = (beyV 1000000 x y z || beyV 1000000000 p q r) by rw [HV.out]; rfl)
            rw [hb1, hb2] at hby
            have HBY := Lib.hid hby
            rw [hb1] at CA; rw [hb2] at C2; clear hb1 hb2 hby
            go_wp2_with fail
            refine (CA.out _ (wr.heap.size + 1) 0 (by have := vecs_one (wr.alloc (.cells #[.int .i64 x, .int .i64 y, .int .i64 z, .int .i64 p, .int .i64 q, .int .i64 r] 27)) x y z; simpa using this)).mono ?_
            rintro e w1 ⟨rfl, h⟩
            have FB := Lib.hid (((Box.new wr #[.int .i64 x, .int .i64 y, .int .i64 z, .int .i64 p, .int .i64 q, .int .i64 r] 27 (n := wr.heap.size) rfl).alloc _).keep h)
            have B1 : Below w.heap.size w w1 := below_via (by (repeat' (first | (with_reducible exact Below.refl _ _) | (with_reducible assumption) | (with_reducible refine Below.drew ?_) | (with_reducible refine below_drewN ?_ _) | (with_reducible refine Below.setCell ?_ ?_ _) | (with_reducible refine Below.alloc ?_ ?_ _) | go_size | omega))) h
            have z1 := h.size
            simp at z1
            clear h c0 c1 c2 c3 c4 c5 CA
            have d3 := FB.out.cell 3; have d4 := FB.out.cell 4; have d5 := FB.out.cell 5
            simp at d3 d4 d5
            have lf := FB.out.lt
            go_wp2_with fail
            clear d3 d4 d5 lf
            have K := Lib.hid (fun (w' : World) (hw : Below w1.heap.size w1 w') => show (w'.cell? ⟨wr.heap.size, 3, none⟩ = some (.int .i64 p) ∧ w'.cell? ⟨wr.heap.size, 4, none⟩ = some (.int .i64 q) ∧ w'.cell? ⟨wr.heap.size, 5, none⟩ = some (.int .i64 r)) from ⟨(FB.out.keep hw).cell 3, (FB.out.keep hw).cell 4, (FB.out.keep hw).cell 5⟩)
            go_region_held3 (fun w' => (w'.cell? ⟨wr.heap.size, 3, none⟩ = some (.int .i64 p) ∧ w'.cell? ⟨wr.heap.size, 4, none⟩ = some (.int .i64 q) ∧ w'.cell? ⟨wr.heap.size, 5, none⟩ = some (.int .i64 r)))
              ((refine K.out _ ?_; (repeat' (first | (with_reducible exact Below.refl _ _) | (with_reducible assumption) | (with_reducible refine Below.drew ?_) | (with_reducible refine below_drewN ?_ _) | (with_reducible refine Below.setCell ?_ ?_ _) | (with_reducible refine Below.alloc ?_ ?_ _) | go_size | omega)); done))
              (first | (go_at_call 74; refine (beyond_any _ _).mono ?_; rintro e w8 ⟨rfl, bx8, h8⟩; have hB8 : Below w1.heap.size w1 w8 := below_via (by (repeat' (first | (with_reducible exact Below.refl _ _) | (with_reducible assumption) | (with_reducible refine Below.drew ?_) | (with_reducible refine below_drewN ?_ _) | (with_reducible refine Below.setCell ?_ ?_ _) | (with_reducible refine Below.alloc ?_ ?_ _) | go_size | omega))) h8; have hz8 := hB8.size; have HC8 := Lib.hid bx8; have lc8 := bx8.lt; clear h8 bx8; obtain ⟨k0_0, k0_1, k0_2⟩ := K.out w8 hB8) | (go_at_call 73; refine (C2.out _ _ lc8 (HC8.out.cell 0)).mono ?_; rintro e w9 ⟨rfl, h9⟩; have hB9 : Below w1.heap.size w1 w9 := below_via (by (repeat' (first | (with_reducible exact Below.refl _ _) | (with_reducible assumption) | (with_reducible refine Below.drew ?_) | (with_reducible refine below_drewN ?_ _) | (with_reducible refine Below.setCell ?_ ?_ _) | (with_reducible refine Below.alloc ?_ ?_ _) | go_size | omega))) h9; clear h9; have hz9 := hB9.size; obtain ⟨k0_0, k0_1, k0_2⟩ := K.out w9 hB9))
            all_goals have BV : Below w.heap.size w w9 := below_via B1 hB9
            go_wp2_with fail
          · go_roundw
            case rel => exact ⟨k + 1, by omega, by simp, by rw [chkR_go hkl HBY.out]; exact HD.out, BV⟩
            case measure => simp [intOf]; omega
          · go_ret
            exact ⟨ret_int (by rw [F.out, ← HD.out, chkR_bad hkl HBY.out]), BV⟩
        · have HBY := Lib.hid (show badP l[k] = true by rw [HV.out]; unfold badP; dsimp only; rw [hb1, Bool.true_or])
          rw [hb1] at CA; clear hb1 C2
          go_wp2_with fail
          refine (CA.out _ (wr.heap.size + 1) 0 (by have := vecs_one (wr.alloc (.cells #[.int .i64 x, .int .i64 y, .int .i64 z, .int .i64 p, .int .i64 q, .int .i64 r] 27)) x y z; simpa using this)).mono ?_
          rintro e w1 ⟨rfl, h⟩
          have B1 : Below w.heap.size w w1 := below_via (by (repeat' (first | (with_reducible exact Below.refl _ _) | (with_reducible assumption) | (with_reducible refine Below.drew ?_) | (with_reducible refine below_drewN ?_ _) | (with_reducible refine Below.setCell ?_ ?_ _) | (with_reducible refine Below.alloc ?_ ?_ _) | go_size | omega))) h
          clear h c0 c1 c2 c3 c4 c5
          go_wp2_with fail
          go_ret
          exact ⟨ret_int (by rw [F.out, ← HD.out, chkR_bad hkl HBY.out]), B1⟩
      · obtain rfl : k = l.length := by omega
        go_wp2_with fail
        go_ret
        exact ⟨ret_int (by rw [F.out, ← HD.out, List.drop_length]; rfl), hB⟩
end Go.Proofs.Ytahfliboanphkaa
