/-
  Distribute, where an input is refused.
-/
import Derived.Test.YtahfliboanphkaaDst
namespace Go.Proofs.Ytahfliboanphkaa
open Go.RowKit
attribute [local go_sem ↓] Go.wp_at_zero Go.wp_at_succ
set_option maxRecDepth 100000 in
set_option maxHeartbeats 1600000 in
theorem distBad_any (E : Int) (l : List Int) (a : Option Addr) (cap : Nat) (sL : Value) (hl : l.length ≤ 1000000) (hb : brE l = E) (hne : E ≠ 0) (w : World) (hp : InAt w a l) :
    Calls Try.prog 24 #[.slice a l.length cap, sL] w fun e w' => e = .returned (.tuple #[.slice none 0 0, .int .i64 E]) ∧ Below w.heap.size w w' := by
  have CK := Lib.hid (fun (u : World) (h : InAt u a l) => chkBars_any l a cap u hl h)
  rw [hb] at CK
  have hbq : (E == 0) = false := by simpa using hne
  have HP := Lib.hid hp
  clear hp hb
  go_enter Try.func24, Try.ntmps24
  go_wp2_with fail
  refine (CK.out _ HP.out).mono ?_
  rintro e w1 ⟨rfl, h⟩
  have B1 : Below w.heap.size w w1 := h
  clear h CK
  go_wp2_with fail
  go_ret2
  exact ⟨by simp, by (repeat' (first | (with_reducible exact Below.refl _ _) | (with_reducible assumption) | (with_reducible refine Below.drew ?_) | (with_reducible refine below_drewN ?_ _) | (with_reducible refine Below.setCell ?_ ?_ _) | (with_reducible refine Below.alloc ?_ ?_ _) | go_size | omega))⟩
set_option maxRecDepth 100000 in
set_option maxHeartbeats 3200000 in
theorem distBadL_any (E : Int) (l : List Int) (m b o cap : Nat) (hlm : l.length = m + 1) (hb : brE l = 0) (L : List (Int × Int)) (aL : Option Addr) (capL : Nat) (w : World) (hbl : b < w.heap.size) (hc : ∀ j (h : j < l.length), w.cell? ⟨b, o + j, none⟩ = some (.int .i64 l[j])) (hLl : L.length ≤ 400) (hL : LdAt w aL L) (hLk : chkL (l.getD 0 0) (l.getD m 0) L = E) (hne : E ≠ 0) :
    Calls Try.prog 24 #[.slice (some ⟨b, o, none⟩) (m + 1) cap, .slice aL L.length capL] w fun e w' => e = .returned (.tuple #[.slice none 0 0, .int .i64 E]) ∧ Below w.heap.size w w' := by
  have hB := okB_of hb
  have m1 : 1 ≤ m := by have := hB.1; omega
  have m2 : m ≤ 19 := by have := hB.1; omega
  have IA : InAt w (some ⟨b, o, none⟩) l := .inr ⟨b, o, rfl, hbl, hc⟩
  have CK := Lib.hid (fun (u : World) (h : InAt u (some ⟨b, o, none⟩) l) => chkBars_any l _ cap u (by omega) h)
  rw [hb, hlm] at CK
  have CL := Lib.hid (fun (u : World) (h : LdAt u aL L) => chkL_any (l.getD 0 0) (l.getD m 0) L aL capL u (by omega) h)
  rw [hLk] at CL
  have hbq : (E == 0) = false := by simpa using hne
  have C0 := Lib.hid (show w.cell? ⟨b, o, none⟩ = some (.int .i64 (l.getD 0 0)) by have := hc 0 (by omega); rw [List.getD_eq_getElem?_getD, List.getElem?_eq_getElem (by omega)]; simpa using this)
  have C1 := Lib.hid (show w.cell? ⟨b, o + m, none⟩ = some (.int .i64 (l.getD m 0)) by have := hc m (by omega); rw [List.getD_eq_getElem?_getD, List.getElem?_eq_getElem (by omega)]; simpa using this)
  have HL := Lib.hid hL; have HIA := Lib.hid IA
  clear hb hLk hc hL IA hlm hB
  go_enter Try.func24, Try.ntmps24
  go_wp2_with fail
  refine (CK.out _ HIA.out).mono ?_
  rintro e w1 ⟨rfl, h⟩
  have B1 : Below w.heap.size w w1 := h
  clear h CK
  have q0 : (0 : Int) < (m : Int) + 1 := by omega
  have q1 : (m : Int) + 1 - 1 = (m : Int) := by omega
  have q2 : IntKind.i64.wrap ((m : Int) + 1 - 1) = (m : Int) := by rw [q1]; exact IntWalk.i64_in _ (by omega)
  have q3 : (0 : Int) ≤ (m : Int) := by omega
  have q4 : (m : Int) < (m : Int) + 1 := by omega
  clear q1
  have q5 : IntKind.i64.wrap (m : Int) = (m : Int) := IntWalk.i64_in _ (by omega)
  go_upto_region 4 with fail
  have K := Lib.hid (fun (w' : World) (hw : Below w1.heap.size w1 w') => show (w'.cell? ⟨b, o, none⟩ = some (.int .i64 (l.getD 0 0)) ∧ w'.cell? ⟨b, o + m, none⟩ = some (.int .i64 (l.getD m 0))) from ⟨((bcell (below_via B1 hw)).1 b _ hbl).trans C0.out, ((bcell (below_via B1 hw)).1 b _ hbl).trans C1.out⟩)
  go_region_held3 (fun w' => (w'.cell? ⟨b, o, none⟩ = some (.int .i64 (l.getD 0 0)) ∧ w'.cell? ⟨b, o + m, none⟩ = some (.int .i64 (l.getD m 0))))
    ((refine K.out _ ?_; (repeat' (first | (with_reducible exact Below.refl _ _) | (with_reducible assumption) | (with_reducible refine Below.drew ?_) | (with_reducible refine below_drewN ?_ _) | (with_reducible refine Below.setCell ?_ ?_ _) | (with_reducible refine Below.alloc ?_ ?_ _) | go_size | omega)); done))
    (first | (go_at_call 54; refine (CL.out _ (HL.out.keep (below_via B1 (by (repeat' (first | (with_reducible exact Below.refl _ _) | (with_reducible assumption) | (with_reducible refine Below.drew ?_) | (with_reducible refine below_drewN ?_ _) | (with_reducible refine Below.setCell ?_ ?_ _) | (with_reducible refine Below.alloc ?_ ?_ _) | go_size | omega)))))).mono ?_; rintro e w2 ⟨rfl, h2⟩; have hB2 : Below w1.heap.size w1 w2 := below_via (by (repeat' (first | (with_reducible exact Below.refl _ _) | (with_reducible assumption) | (with_reducible refine Below.drew ?_) | (with_reducible refine below_drewN ?_ _) | (with_reducible refine Below.setCell ?_ ?_ _) | (with_reducible refine Below.alloc ?_ ?_ _) | go_size | omega))) h2; clear h2; have hz2' := hB2.size; obtain ⟨k0, k1⟩ := K.out w2 hB2))
  all_goals
    have B2 : Below w.heap.size w w2 := below_via B1 hB2
    clear k0 k1 K CL
    go_wp2_with fail
    go_ret2
    exact ⟨by simp, by (repeat' (first | (with_reducible exact Below.refl _ _) | (with_reducible assumption) | (with_reducible refine Below.drew ?_) | (with_reducible refine below_drewN ?_ _) | (with_reducible refine Below.setCell ?_ ?_ _) | (with_reducible refine Below.alloc ?_ ?_ _) | go_size | omega))⟩
end Go.Proofs.Ytahfliboanphkaa
