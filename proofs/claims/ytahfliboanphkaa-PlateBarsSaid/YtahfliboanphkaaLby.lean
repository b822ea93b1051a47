/-
  The law PlateBars.
-/
import Derived.Test.YtahfliboanphkaaLbx
import Derived.Test.YtahfliboanphkaaBci
import Derived.Test.YtahfliboanphkaaBre
import Derived.Test.YtahfliboanphkaaBfr
import Derived.Test.YtahfliboanphkaaRdw
import Derived.Test.YtahfliboanphkaaBm2
import Derived.Test.YtahfliboanphkaaGir
import Derived.Test.YtahfliboanphkaaGsm
import Derived.Test.YtahfliboanphkaaAwk3
import Derived.StillTailTactics
import Derived.Deep.DeepCutAuto
namespace Go.Proofs.Ytahfliboanphkaa
open Go.RowKit
attribute [local go_sem ↓] Go.wp_at_zero Go.wp_at_succ
set_option maxRecDepth 100000 in
set_option maxHeartbeats 3200000 in
theorem bars_C (E : Int) (l : List Int) (m b o cap : Nat) (hlm : l.length = m + 1) (hb : brE l = 0) (L : List (Int × Int)) (aL : Option Addr) (capL : Nat) (w : World) (hlL : L.length ≤ 9223372036854775807) (hsm : smL L = true) (hbl : b < w.heap.size) (hc : ∀ j (h : j < l.length), w.cell? ⟨b, o + j, none⟩ = some (.int .i64 l[j])) (hL : LdAt w aL L) (hLk : chkL (l.getD 0 0) (l.getD m 0) L = E) (hne : E ≠ 0) :
    Calls Try.prog 5 #[.slice (some ⟨b, o, none⟩) (m + 1) cap, .slice aL L.length capL] w fun e w' => e = .returned (.bool true) ∧ Below w.heap.size w w' := by
  have hl4 : L.length ≤ 400 := by unfold smL at hsm; simp at hsm; omega
  have hB := okB_of hb
  have m1 : 1 ≤ m := by have := hB.1; omega
  have m2 : m ≤ 19 := by have := hB.1; omega
  have h25 : ¬ (25 : Int) < (m : Int) + 1 := by omega
  have IA : InAt w (some ⟨b, o, none⟩) l := .inr ⟨b, o, rfl, hbl, hc⟩
  have AW := Lib.hid (fun u => awake3_any u)
  have CF := Lib.hid (fun u => some_any L aL capL u hlL)
  have CI := Lib.hid (fun (u : World) (h : InAt u (some ⟨b, o, none⟩) l) => copyInts2_any l (some ⟨b, o, none⟩) cap u (by omega) h)
  have CL := Lib.hid (fun (u : World) (h : LdAt u aL L) => loads_any L aL capL u hl4 h)
  have CK := Lib.hid (fun (u : World) (h : InAt u (some ⟨b, o, none⟩) l) => rchkBars_any l (some ⟨b, o, none⟩) cap u (by omega) h)
  have CB := Lib.hid (fun (a' : Option Addr) (c' : Nat) (u : World) (h : InAt u a' l) => chkBars_any l a' c' u (by omega) h)
  have CR := Lib.hid (fun (u : World) (h : LdAt u aL L) => rchkL_any (l.getD 0 0) (l.getD m 0) L aL capL u hlL h)
  have C0 := Lib.hid (show w.cell? ⟨b, o, none⟩ = some (.int .i64 (l.getD 0 0)) by have := hc 0 (by omega); rw [List.getD_eq_getElem?_getD, List.getElem?_eq_getElem (by omega)]; simpa using this)
  have C1 := Lib.hid (show w.cell? ⟨b, o + m, none⟩ = some (.int .i64 (l.getD m 0)) by have := hc m (by omega); rw [List.getD_eq_getElem?_getD, List.getElem?_eq_getElem (by omega)]; simpa using this)
  rw [hsm] at CF
  rw [hb] at CK CB
  rw [hlm] at CK CB CI
  rw [hLk] at CR
  have CD := Lib.hid (fun (a' : Option Addr) (c' : Nat) (b' cL : Nat) (u : World) (h : InAt u a' l) (hL' : LdAt u (some ⟨b', 0, none⟩) L) => show Calls Try.prog 24 #[.slice a' (m + 1) c', .slice (some ⟨b', 0, none⟩) L.length cL] u (fun e w' => e = .returned (.tuple #[.slice none 0 0, .int .i64 E]) ∧ Below u.heap.size u w') from by
    rcases h with h | ⟨x, y, rfl, h1, h2⟩
    · rw [h] at hlm; simp at hlm
    · exact distBadL_any E l m x y c' hlm hb L _ cL u h1 h2 hl4 hL' hLk hne)
  have hbq : (E == 0) = false := by simpa using hne
  have HP := Lib.hid IA; have HL := Lib.hid hL
  clear hL hb hsm hc hLk IA hB
  go_enter Try.func5, Try.ntmps5
  go_wp2_with fail
  refine (AW.out _).mono ?_
  rintro e w1 ⟨rfl, h⟩
  have B1 : Below w.heap.size w w1 := below_via (by (repeat' (first | (with_reducible exact Below.refl _ _) | (with_reducible assumption) | (with_reducible refine Below.drew ?_) | (with_reducible refine below_drewN ?_ _) | (with_reducible refine Below.setCell ?_ ?_ _) | (with_reducible refine Below.alloc ?_ ?_ _) | go_size | omega))) h
  clear h AW
  go_wp2_with fail
  refine (CF.out _).mono ?_
  rintro e w2 ⟨rfl, h⟩
  have B2 : Below w.heap.size w w2 := below_via B1 h
  clear h CF
  go_wp2_with fail
  refine (CI.out _ (HP.out.keep B2)).mono ?_
  rintro e w3 ⟨⟨a3, c3, rfl, hq3, hc3⟩, h⟩
  have B3 : Below w.heap.size w w3 := below_via B2 h
  have Q3 := Lib.hid hq3
  clear h hq3
  go_wp2_with fail
  refine (CL.out _ (HL.out.keep B3)).mono ?_
  rintro e w4 ⟨⟨b4, c4, rfl, hq4⟩, h⟩
  have B4 : Below w.heap.size w w4 := below_via B3 h
  have Q4 := Lib.hid hq4
  have Q5 := Lib.hid (Q3.out.keep h)
  clear h hq4 CL
  go_wp2_with fail
  refine (CD.out a3 c3 b4 c4 _ Q5.out (ldAt_in Q4.out (Nat.le_refl _))).mono ?_
  rintro e w5 ⟨rfl, h⟩
  have B5 : Below w.heap.size w w5 := below_via B4 h
  clear h CD
  go_wp2_with fail
  refine (CK.out _ (HP.out.keep B5)).mono ?_
  rintro e w6 ⟨rfl, h⟩
  have B6 : Below w.heap.size w w6 := below_via B5 h
  clear h CK
  go_wp2_with fail
  refine (CI.out _ (HP.out.keep B6)).mono ?_
  rintro e w7 ⟨⟨a7, c7, rfl, hq7, hc7⟩, h⟩
  have B7 : Below w.heap.size w w7 := below_via B6 h
  have Q7 := Lib.hid hq7
  clear h hq7 CI
  go_wp2_with fail
  refine (CB.out a7 c7 _ Q7.out).mono ?_
  rintro e w8 ⟨rfl, h⟩
  have B8 : Below w.heap.size w w8 := below_via B7 h
  clear h CB
  have q0 : (0 : Int) < (m : Int) + 1 := by omega
  have q1 : (m : Int) + 1 - 1 = (m : Int) := by omega
  have q2 : IntKind.i64.wrap ((m : Int) + 1 - 1) = (m : Int) := by rw [q1]; exact IntWalk.i64_in _ (by omega)
  have q3 : (0 : Int) ≤ (m : Int) := by omega
  have q4 : (m : Int) < (m : Int) + 1 := by omega
  clear q1
  have q5 : IntKind.i64.wrap (m : Int) = (m : Int) := IntWalk.i64_in _ (by omega)
  clear B1 B2 B3 B4 B5 B6 B7 Q3 Q4 Q5 Q7 hc3 hc7 h25 hl4 hlL HP
  generalize l.getD 0 0 = x0 at *
  generalize l.getD m 0 = x1 at *
  go_upto_region 10 with fail
  have K := Lib.hid (fun (w' : World) (hw : Below w8.heap.size w8 w') => show (w'.cell? ⟨b, o, none⟩ = some (.int .i64 x0) ∧ w'.cell? ⟨b, o + m, none⟩ = some (.int .i64 x1)) from ⟨((bcell (below_via B8 hw)).1 b _ hbl).trans C0.out, ((bcell (below_via B8 hw)).1 b _ hbl).trans C1.out⟩)
  go_region_held3 (fun w' => (w'.cell? ⟨b, o, none⟩ = some (.int .i64 x0) ∧ w'.cell? ⟨b, o + m, none⟩ = some (.int .i64 x1)))
    ((refine K.out _ ?_; (repeat' (first | (with_reducible exact Below.refl _ _) | (with_reducible assumption) | (with_reducible refine Below.drew ?_) | (with_reducible refine below_drewN ?_ _) | (with_reducible refine Below.setCell ?_ ?_ _) | (with_reducible refine Below.alloc ?_ ?_ _) | go_size | omega)); done))
    (first | (go_at_call 29; refine (CR.out _ (HL.out.keep (below_via B8 (by (repeat' (first | (with_reducible exact Below.refl _ _) | (with_reducible assumption) | (with_reducible refine Below.drew ?_) | (with_reducible refine below_drewN ?_ _) | (with_reducible refine Below.setCell ?_ ?_ _) | (with_reducible refine Below.alloc ?_ ?_ _) | go_size | omega)))))).mono ?_; rintro e w9 ⟨rfl, h9⟩; have hB9 : Below w8.heap.size w8 w9 := below_via (by (repeat' (first | (with_reducible exact Below.refl _ _) | (with_reducible assumption) | (with_reducible refine Below.drew ?_) | (with_reducible refine below_drewN ?_ _) | (with_reducible refine Below.setCell ?_ ?_ _) | (with_reducible refine Below.alloc ?_ ?_ _) | go_size | omega))) h9; clear h9; have hz9 := hB9.size; obtain ⟨k0, k1⟩ := K.out w9 hB9))
  all_goals
    have B9 : Below w.heap.size w w9 := below_via B8 hB9
    clear k0 k1 K CR
    go_wp2_with fail
    go_ret
    exact ⟨by simp, B9⟩
end Go.Proofs.Ytahfliboanphkaa
