/-
  The law PlateBars.
-/
import Derived.Test.YtahfliboanphkaaBci
import Derived.Test.YtahfliboanphkaaBre
import Derived.Test.YtahfliboanphkaaBfr
import Derived.Test.YtahfliboanphkaaRdw
import Derived.Test.YtahfliboanphkaaBm2
import Derived.Test.YtahfliboanphkaaGir
import Derived.Test.YtahfliboanphkaaGsm
import Derived.Test.YtahfliboanphkaaAwk3
import Derived.StillTailTactics
import Derived.Deep.DeepCutAuto
namespace Go.Proofs.Ytahfliboanphkaa
open Go.RowKit
attribute [local go_sem ↓] Go.wp_at_zero Go.wp_at_succ
theorem ldAt_in {w : World} {n b c : Nat} {L : List (Int × Int)} (h : LoadsIn n w (.slice (some ⟨b, 0, none⟩) L.length c) L) (hn : n ≤ w.heap.size) : LdAt w (some ⟨b, 0, none⟩) L := by
  rcases h with ⟨h0, h1⟩ | ⟨b', o', c', e, hlt, hc⟩
  · exact .inl h1
  · cases e
    exact .inr ⟨_, _, rfl, Nat.lt_of_lt_of_le hlt hn, hc⟩
set_option maxRecDepth 100000 in
set_option maxHeartbeats 3200000 in
theorem bars_A1 (l : List Int) (a : Option Addr) (cap : Nat) (L : List (Int × Int)) (aL : Option Addr) (capL : Nat) (w : World) (h25 : (25 : Int) < (l.length : Int)) :
    Calls Try.prog 5 #[.slice a l.length cap, .slice aL L.length capL] w fun e w' => e = .returned (.bool true) ∧ Below w.heap.size w w' := by
  have AW := Lib.hid (fun u => awake3_any u)
  go_enter Try.func5, Try.ntmps5
  go_wp2_with fail
  refine (AW.out _).mono ?_
  rintro e w1 ⟨rfl, h⟩
  have B1 : Below w.heap.size w w1 := below_via (by (repeat' (first | (with_reducible exact Below.refl _ _) | (with_reducible assumption) | (with_reducible refine Below.drew ?_) | (with_reducible refine below_drewN ?_ _) | (with_reducible refine Below.setCell ?_ ?_ _) | (with_reducible refine Below.alloc ?_ ?_ _) | go_size | omega))) h
  clear h AW
  go_wp2_with fail
  go_ret
  exact ⟨rfl, B1⟩
set_option maxRecDepth 100000 in
set_option maxHeartbeats 3200000 in
theorem bars_A2 (l : List Int) (a : Option Addr) (cap : Nat) (L : List (Int × Int)) (aL : Option Addr) (capL : Nat) (w : World) (h25 : ¬ (25 : Int) < (l.length : Int)) (hlL : L.length ≤ 9223372036854775807) (hsm : smL L = false) :
    Calls Try.prog 5 #[.slice a l.length cap, .slice aL L.length capL] w fun e w' => e = .returned (.bool true) ∧ Below w.heap.size w w' := by
  have AW := Lib.hid (fun u => awake3_any u)
  have CF := Lib.hid (fun u => some_any L aL capL u hlL)
  rw [hsm] at CF
  go_enter Try.func5, Try.ntmps5
  go_wp2_with fail
  refine (AW.out _).mono ?_
  rintro e w1 ⟨rfl, h⟩
  have B1 : Below w.heap.size w w1 := below_via (by (repeat' (first | (with_reducible exact Below.refl _ _) | (with_reducible assumption) | (with_reducible refine Below.drew ?_) | (with_reducible refine below_drewN ?_ _) | (with_reducible refine Below.setCell ?_ ?_ _) | (with_reducible refine Below.alloc ?_ ?_ _) | go_size | omega))) h
  clear h AW
  go_wp2_with fail
  refine (CF.out _).mono ?_
  rintro e w2 ⟨rfl, h⟩
  have B2 : Below w.heap.size w w2 := below_via B1 h
  clear h CF
  go_wp2_with fail
  go_ret
  exact ⟨rfl, B2⟩
set_option maxRecDepth 100000 in
set_option maxHeartbeats 3200000 in
theorem bars_B (E : Int) (l : List Int) (a : Option Addr) (cap : Nat) (L : List (Int × Int)) (aL : Option Addr) (capL : Nat) (w : World) (h25 : ¬ (25 : Int) < (l.length : Int)) (hlL : L.length ≤ 9223372036854775807) (hsm : smL L = true) (hp : InAt w a l) (hL : LdAt w aL L) (hb : brE l = E) (hne : E ≠ 0) :
    Calls Try.prog 5 #[.slice a l.length cap, .slice aL L.length capL] w fun e w' => e = .returned (.bool true) ∧ Below w.heap.size w w' := by
  have hl4 : L.length ≤ 400 := by unfold smL at hsm; simp at hsm; omega
  have AW := Lib.hid (fun u => awake3_any u)
  have CF := Lib.hid (fun u => some_any L aL capL u hlL)
  have CI := Lib.hid (fun (u : World) (h : InAt u a l) => copyInts2_any l a cap u (by omega) h)
  have CL := Lib.hid (fun (u : World) (h : LdAt u aL L) => loads_any L aL capL u hl4 h)
  have CK := Lib.hid (fun (u : World) (h : InAt u a l) => rchkBars_any l a cap u (by omega) h)
  have CB := Lib.hid (fun (a' : Option Addr) (c' : Nat) (u : World) (h : InAt u a' l) => chkBars_any l a' c' u (by omega) h)
  have CD := Lib.hid (fun (a' : Option Addr) (c' : Nat) (sL : Value) (u : World) (h : InAt u a' l) => distBad_any E l a' c' sL (by omega) hb hne u h)
  rw [hsm] at CF
  rw [hb] at CK CB
  have hbq : (E == 0) = false := by simpa using hne
  have HP := Lib.hid hp; have HL := Lib.hid hL
  clear hp hL hb hsm
  go_enter Try.func5, Try.ntmps5
  go_wp2_with fail
  refine (AW.out _).mono ?_
  rintro e w1 ⟨rfl, h⟩
  have B1 : Below w.heap.size w w1 := below_via (by (repeat' (first | (with_reducible exact Below.refl _ _) | (with_reducible assumption) | (with_reducible refine Below.drew ?_) | (with_reducible refine below_drewN ?_ _) | (with_reducible refine Below.setCell ?_ ?_ _) | (with_reducible refine Below.alloc ?_ ?_ _) | go_size | omega))) h
  clear h AW
  go_wp2_with fail
  refine (CF.out _).mono ?_
  rintro e w2 ⟨rfl, h⟩
  have B2 : Below w.heap.size w w2 := below_via B1 h
  clear h CF
  go_wp2_with fail
  refine (CI.out _ (HP.out.keep B2)).mono ?_
  rintro e w3 ⟨⟨a3, c3, rfl, hq3, hc3⟩, h⟩
  have B3 : Below w.heap.size w w3 := below_via B2 h
  have Q3 := Lib.hid hq3
  clear h hq3
  go_wp2_with fail
  refine (CL.out _ (HL.out.keep B3)).mono ?_
  rintro e w4 ⟨⟨b4, c4, rfl, hq4⟩, h⟩
  have B4 : Below w.heap.size w w4 := below_via B3 h
  have Q4 := Lib.hid hq4
  have Q5 := Lib.hid (Q3.out.keep h)
  clear h hq4 CL
  go_wp2_with fail
  refine (CD.out a3 c3 _ _ Q5.out).mono ?_
  rintro e w5 ⟨rfl, h⟩
  have B5 : Below w.heap.size w w5 := below_via B4 h
  clear h CD
  go_wp2_with fail
  refine (CK.out _ (HP.out.keep B5)).mono ?_
  rintro e w6 ⟨rfl, h⟩
  have B6 : Below w.heap.size w w6 := below_via B5 h
  clear h CK
  go_wp2_with fail
  refine (CI.out _ (HP.out.keep B6)).mono ?_
  rintro e w7 ⟨⟨a7, c7, rfl, hq7, hc7⟩, h⟩
  have B7 : Below w.heap.size w w7 := below_via B6 h
  have Q7 := Lib.hid hq7
  clear h hq7 CI
  go_wp2_with fail
  refine (CB.out a7 c7 _ Q7.out).mono ?_
  rintro e w8 ⟨rfl, h⟩
  have B8 : Below w.heap.size w w8 := below_via B7 h
  clear h CB
  go_wp2_with fail
  go_ret
  exact ⟨by simp, B8⟩
end Go.Proofs.Ytahfliboanphkaa
