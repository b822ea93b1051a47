/-
  The pulls of strings: whether places are right, the length of a way, a component of a pull.
-/
import Derived.Test.YtahfliboanphkaaVec
import Derived.Test.YtahfliboanphkaaRoo
namespace Go.Proofs.Ytahfliboanphkaa
open Go.RowKit
set_option maxHeartbeats 800000 in
theorem inside_any (a b lo hi : Int) (w : World) :
    Calls Try.prog 70 #[.agg #[.int .i64 a, .int .i64 b], .int .i64 lo, .int .i64 hi] w fun e w' => e = .returned (.bool (decide (lo ≤ a ∧ a ≤ b ∧ b ≤ hi))) ∧ Below w.heap.size w w' := by
  by_cases h1 : lo ≤ a <;> by_cases h2 : a ≤ b <;> by_cases h3 : b ≤ hi
  all_goals
    have HF := Lib.hid (show decide (lo ≤ a ∧ a ≤ b ∧ b ≤ hi) = (decide (lo ≤ a) && (decide (a ≤ b) && decide (b ≤ hi))) by rw [Bool.eq_iff_iff]; simp)
    simp only [h1, h2, h3] at HF
    go_enter Try.func70, Try.ntmps70
    go_wp2_with fail
    go_ret
    exact ⟨ret_bool (by first | rfl | (rw [HF.out]; simp) | (simp; omega)), by (repeat' (first | (with_reducible exact Below.refl _ _) | (with_reducible assumption) | (with_reducible refine Below.drew ?_) | (with_reducible refine below_drewN ?_ _) | (with_reducible refine Below.setCell ?_ ?_ _) | (with_reducible refine Below.alloc ?_ ?_ _) | go_size | omega))⟩
structure Vc where
  x : Int
  y : Int
  z : Int
/-- vectors in a row -/
def VecsAt (w : World) (b o : Nat) (l : List Vc) : Prop := b < w.heap.size ∧ ∀ j (h : j < l.length), w.cell? ⟨b, o + j * 3, none⟩ = some (.int .i64 (l[j]).x) ∧ w.cell? ⟨b, o + j * 3 + 1, none⟩ = some (.int .i64 (l[j]).y) ∧ w.cell? ⟨b, o + j * 3 + 2, none⟩ = some (.int .i64 (l[j]).z)
theorem VecsAt.keep {w w' : World} {b o : Nat} {l : List Vc} (h : VecsAt w b o l) (hb : Below w.heap.size w w') : VecsAt w' b o l := by
  obtain ⟨h1, h2⟩ := h
  refine ⟨Nat.lt_of_lt_of_le h1 hb.size, fun j hj => ?_⟩
  rw [(bcell hb).1 b _ h1, (bcell hb).1 b _ h1, (bcell hb).1 b _ h1]; exact h2 j hj
def plErr : List Vc → Int
  | [] => 0
  | v :: t => if beyV 1000000 v.x v.y v.z then 2 else plErr t
theorem plErr_go {l : List Vc} {k : Nat} (hk : k < l.length) (h : beyV 1000000 (l[k]).x (l[k]).y (l[k]).z = false) : plErr (l.drop (k + 1)) = plErr (l.drop k) := by
  rw [List.drop_eq_getElem_cons hk]
  show _ = (if beyV 1000000 (l[k]).x (l[k]).y (l[k]).z then 2 else plErr (l.drop (k + 1)))
  rw [h]; rfl
theorem plErr_bad {l : List Vc} {k : Nat} (hk : k < l.length) (h : beyV 1000000 (l[k]).x (l[k]).y (l[k]).z = true) : plErr (l.drop k) = 2 := by
  rw [List.drop_eq_getElem_cons hk]
  show (if beyV 1000000 (l[k]).x (l[k]).y (l[k]).z then 2 else plErr (l.drop (k + 1))) = 2
  rw [h]; rfl
def PlRel (l : List Vc) (w : World) (v : Value) (wr : World) : Prop :=
  ∃ k : Nat, k ≤ l.length ∧ v = .int .i64 (k : Int) ∧ plErr (l.drop k) = plErr l ∧ Below w.heap.size w wr
set_option maxRecDepth 100000 in
set_option maxHeartbeats 1600000 in
theorem placeError_any (b o cap : Nat) (l : List Vc) (w : World) (h : VecsAt w b o l) (hl : l.length ≤ 1000000) :
    Calls Try.prog 71 #[.slice (some ⟨b, o, none⟩) l.length cap] w fun e w' => e = .returned (.int .i64 (plErr l)) ∧ Below w.heap.size w w' := by
  have H := Lib.hid h; clear h
  go_enter Try.func71, Try.ntmps71
  go_wp2_with fail
  go_loopw [7] (PlRel l w) (fun i _ => l.length - (intOf i).toNat)
  case atStart => exact ⟨0, by omega, rfl, by rw [List.drop_zero], Below.refl _ _⟩
  case round =>
    obtain ⟨k, hk, rfl, hd, hB⟩ := hrel
    have HD := Lib.hid hd; clear hd
    have zr := hB.size
    by_cases hkl : k < l.length
    · obtain ⟨c0, c1, c2⟩ := (H.out.keep hB).2 k hkl
      have hbl := (H.out.keep hB).1
      have HV := Lib.hid (show ∃ x y z, (l[k]).x = x ∧ (l[k]).y = y ∧ (l[k]).z = z from ⟨_, _, _, rfl, rfl, rfl⟩)
      obtain ⟨x, y, z, hx, hy, hz⟩ := HV.out
      rw [hx] at c0; rw [hy] at c1; rw [hz] at c2
      have HV2 := Lib.hid (And.intro hx (And.intro hy hz)); clear HV hx hy hz
      cases hby : beyV 1000000 x y z
      all_goals
        have HBY := Lib.hid hby; clear hby
        go_wp2_with fail
        have BX0 : Box (wr.alloc (.cells #[.int .i64 x, .int .i64 y, .int .i64 z] 91)) wr.heap.size #[.int .i64 x, .int .i64 y, .int .i64 z] 91 := Box.new _ _ _ rfl
        have BW : Below wr.heap.size wr (wr.alloc (.cells #[.int .i64 x, .int .i64 y, .int .i64 z] 91)) := by go_grown
        have l0 := BX0.lt
        have HX0 := Lib.hid BX0
        generalize (wr.alloc (.cells #[.int .i64 x, .int .i64 y, .int .i64 z] 91)) = u at *
        clear BX0 c0 c1 c2
        have C2 := Lib.hid (fun (c : Nat) (v : World) (hcl : c < v.heap.size) (hc : v.cell? ⟨c, 0, none⟩ = some (.int .i64 1000000)) => hasOne_any 1000000 x y z c v (by omega) (by omega) hcl hc)
        rw [HBY.out] at C2
        have K := Lib.hid (fun (w' : World) (hw : Below u.heap.size u w') => show (w'.cell? ⟨wr.heap.size, 0, none⟩ = some (.int .i64 x) ∧ w'.cell? ⟨wr.heap.size, 1, none⟩ = some (.int .i64 y) ∧ w'.cell? ⟨wr.heap.size, 2, none⟩ = some (.int .i64 z)) from ⟨(Box.keepB (by omega) (HX0.out) hw).cell 0, (Box.keepB (by omega) (HX0.out) hw).cell 1, (Box.keepB (by omega) (HX0.out) hw).cell 2⟩)
        go_region_held3 (fun w' => (w'.cell? ⟨wr.heap.size, 0, none⟩ = some (.int .i64 x) ∧ w'.cell? ⟨wr.heap.size, 1, none⟩ = some (.int .i64 y) ∧ w'.cell? ⟨wr.heap.size, 2, none⟩ = some (.int .i64 z)))
          ((refine K.out _ ?_; (repeat' (first | (with_reducible exact Below.refl _ _) | (with_reducible assumption) | (with_reducible refine Below.drew ?_) | (with_reducible refine below_drewN ?_ _) | (with_reducible refine Below.setCell ?_ ?_ _) | (with_reducible refine Below.alloc ?_ ?_ _) | go_size | omega)); done))
          (first | (go_at_call 74; refine (beyond_any _ _).mono ?_; rintro e w8 ⟨rfl, bx8, h8⟩; have hB8 : Below u.heap.size u w8 := below_via (by (repeat' (first | (with_reducible exact Below.refl _ _) | (with_reducible assumption) | (with_reducible refine Below.drew ?_) | (with_reducible refine below_drewN ?_ _) | (with_reducible refine Below.setCell ?_ ?_ _) | (with_reducible refine Below.alloc ?_ ?_ _) | go_size | omega))) h8; have hz8 := hB8.size; have HC8 := Lib.hid bx8; have lc8 := bx8.lt; clear h8 bx8; obtain ⟨k0_0, k0_1, k0_2⟩ := K.out w8 hB8) | (go_at_call 73; refine (C2.out _ _ lc8 (HC8.out.cell 0)).mono ?_; rintro e w9 ⟨rfl, h9⟩; have hB9 : Below u.heap.size u w9 := below_via (by (repeat' (first | (with_reducible exact Below.refl _ _) | (with_reducible assumption) | (with_reducible refine Below.drew ?_) | (with_reducible refine below_drewN ?_ _) | (with_reducible refine Below.setCell ?_ ?_ _) | (with_reducible refine Below.alloc ?_ ?_ _) | go_size | omega))) h9; clear h9; have hz9 := hB9.size; obtain ⟨k0_0, k0_1, k0_2⟩ := K.out w9 hB9))
      

      all_goals have BV : Below w.heap.size w w9 := hB.trans ((BW.trans (hB9.mono BW.size)).mono zr)
      · go_wp2_with fail
        go_roundw
        case rel => exact ⟨k + 1, by omega, by simp, by rw [plErr_go hkl (by rw [HV2.out.1, HV2.out.2.1, HV2.out.2.2]; exact HBY.out)]; exact HD.out, BV⟩
        case measure => simp [intOf]; omega
      · go_wp2_with fail
        go_ret
        exact ⟨ret_int (by rw [← HD.out, plErr_bad hkl (by rw [HV2.out.1, HV2.out.2.1, HV2.out.2.2]; exact HBY.out)]), BV⟩
    · obtain rfl : k = l.length := by omega
      go_wp2_with fail
      go_ret
      exact ⟨ret_int (by rw [← HD.out, List.drop_length]; rfl), hB⟩
end Go.Proofs.Ytahfliboanphkaa
