/-
  The law PlateMoves.
-/
import Derived.Test.YtahfliboanphkaaRmv
import Derived.Test.YtahfliboanphkaaFbd
import Derived.Test.YtahfliboanphkaaFrb
import Derived.Test.YtahfliboanphkaaAwk3
import Derived.Deep.RegionWith
import Derived.Deep.DeepCutAuto
import Derived.Deep.DrawnRows
namespace Go.Proofs.Ytahfliboanphkaa
open Go.RowKit
attribute [local go_sem ↓] Go.wp_at_zero Go.wp_at_succ
theorem mvPost_err {b0 b1 b2 : Int} {l : List Pf} {w : World} {e : Ending} {w' : World} (hm : mvE b0 b1 b2 l = 2) (h : MvPost b0 b1 b2 l w e w') : e = .returned (.tuple #[.slice none 0 0, .int .i64 2]) ∧ Below w.heap.size w w' := by
  obtain ⟨h | ⟨-, h⟩, hb⟩ := h
  · rw [hm] at h; simp at h
  · exact ⟨h, hb⟩
theorem mvPost_ok {b0 b1 b2 : Int} {l : List Pf} {w : World} {e : Ending} {w' : World} (hm : mvE b0 b1 b2 l = 0) (h : MvPost b0 b1 b2 l w e w') : (∃ a' cap', e = .returned (.tuple #[.slice a' l.length cap', .int .i64 0]) ∧ PlAt w' a' (l.map (mv b0 b1 b2))) ∧ Below w.heap.size w w' := by
  obtain ⟨⟨-, v, rfl, ho⟩ | ⟨h, -⟩, hb⟩ := h
  · obtain ⟨a', cap', rfl⟩ := owns_form ho
    refine ⟨⟨a', cap', rfl, plAt_own (b := w.heap.size) (cap := cap') (by rw [List.length_map]; exact ho)⟩, hb⟩
  · rw [hm] at h; simp at h
set_option maxRecDepth 100000 in
set_option maxHeartbeats 6400000 in
theorem moveBad_any (E : Int) (l : List Pf) (a : Option Addr) (cap : Nat) (t0 t1 t2 : Int) (w : World) (hE : chkP l = E) (hne : E ≠ 0) (hl : l.length ≤ 9223372036854775807) (hp : PlAt w a l) :
    Calls Try.prog 19 #[.slice a l.length cap, vec t0 t1 t2] w fun e w' => e = .returned (.tuple #[.slice none 0 0, .int .i64 E]) ∧ Below w.heap.size w w' := by
  have CK := Lib.hid (fun (u : World) (h : PlAt u a l) => chkP_any l a cap u hl h)
  rw [hE] at CK
  have HP := Lib.hid hp
  have hb : (E == 0) = false := by simpa using hne
  clear hp hE
  go_enter Try.func19, Try.ntmps19
  go_wp2_with fail
  refine (CK.out _ (HP.out.keep (by (repeat' (first | (with_reducible exact Below.refl _ _) | (with_reducible assumption) | (with_reducible refine Below.drew ?_) | (with_reducible refine below_drewN ?_ _) | (with_reducible refine Below.setCell ?_ ?_ _) | (with_reducible refine Below.alloc ?_ ?_ _) | go_size | omega))))).mono ?_
  rintro e w1 ⟨rfl, h⟩
  have B1 : Below w.heap.size w w1 := below_via (by (repeat' (first | (with_reducible exact Below.refl _ _) | (with_reducible assumption) | (with_reducible refine Below.drew ?_) | (with_reducible refine below_drewN ?_ _) | (with_reducible refine Below.setCell ?_ ?_ _) | (with_reducible refine Below.alloc ?_ ?_ _) | go_size | omega))) h
  clear h
  go_wp2_with fail
  go_ret2
  exact ⟨rfl, B1⟩
set_option maxRecDepth 100000 in
set_option maxHeartbeats 6400000 in
theorem lmv_A (l : List Pf) (a : Option Addr) (cap : Nat) (t0 t1 t2 : Int) (w : World) (hl : l.length ≤ 9223372036854775807) (hp : PlAt w a l) (hf : (decide (l.length ≤ 20) || (decide (300 < l.length) && decide (l.length ≤ 305))) = false) :
    Calls Try.prog 4 #[.slice a l.length cap, vec t0 t1 t2] w fun e w' => e = .returned (.bool true) ∧ Below w.heap.size w w' := by
  have AW := Lib.hid (fun u => awake3_any u)
  have HP := Lib.hid hp; clear hp
  have CF := Lib.hid (fun u => few_any l a cap u hl)
  rw [hf] at CF
  go_enter Try.func4, Try.ntmps4
  go_wp2_with fail
  refine (AW.out _).mono ?_
  rintro e w1 ⟨rfl, h⟩
  have B1 : Below w.heap.size w w1 := below_via (by (repeat' (first | (with_reducible exact Below.refl _ _) | (with_reducible assumption) | (with_reducible refine Below.drew ?_) | (with_reducible refine below_drewN ?_ _) | (with_reducible refine Below.setCell ?_ ?_ _) | (with_reducible refine Below.alloc ?_ ?_ _) | go_size | omega))) h
  have T1 := Lib.hid ((Box.new w #[.int .i64 t0, .int .i64 t1, .int .i64 t2] 23 (n := w.heap.size) rfl).keep h)
  have z1 := B1.size
  clear h AW
  go_wp2_with fail
  refine (CF.out _).mono ?_
  rintro e w2 ⟨rfl, h⟩
  have B2 : Below w.heap.size w w2 := below_via B1 h
  have T2 := Lib.hid (T1.out.keep h)
  have z2 := h.size
  clear h T1 CF hf
  go_wp2_with fail
  go_ret
  exact ⟨rfl, B2⟩
set_option maxRecDepth 100000 in
set_option maxHeartbeats 6400000 in
theorem lmv_B (l : List Pf) (a : Option Addr) (cap : Nat) (t0 t1 t2 E : Int) (w : World) (hl : l.length ≤ 9223372036854775807) (hp : PlAt w a l) (hf : (decide (l.length ≤ 20) || (decide (300 < l.length) && decide (l.length ≤ 305))) = true) (hne : E ≠ 0) (h2 : chkP l = E) (iE : IntKind.i64.wrap E = E) :
    Calls Try.prog 4 #[.slice a l.length cap, vec t0 t1 t2] w fun e w' => e = .returned (.bool true) ∧ Below w.heap.size w w' := by
  have h400 : l.length ≤ 400 := by simp at hf; omega
  have CC := Lib.hid (fun (u : World) (h : PlAt u a l) => copied_any l a cap u h400 h)
  have CK := Lib.hid (fun (u : World) (h : PlAt u a l) => rchkP_any l a cap u hl h)
  have CM := Lib.hid (fun (a : Option Addr) (cap : Nat) (u : World) (h : PlAt u a l) => moveBad_any E l a cap t0 t1 t2 u h2 hne hl h)
  rw [h2] at CK
  clear h2
  have hb : (E == 0) = false := by simpa using hne
  have AW := Lib.hid (fun u => awake3_any u)
  have HP := Lib.hid hp; clear hp
  have CF := Lib.hid (fun u => few_any l a cap u hl)
  rw [hf] at CF
  go_enter Try.func4, Try.ntmps4
  go_wp2_with fail
  refine (AW.out _).mono ?_
  rintro e w1 ⟨rfl, h⟩
  have B1 : Below w.heap.size w w1 := below_via (by (repeat' (first | (with_reducible exact Below.refl _ _) | (with_reducible assumption) | (with_reducible refine Below.drew ?_) | (with_reducible refine below_drewN ?_ _) | (with_reducible refine Below.setCell ?_ ?_ _) | (with_reducible refine Below.alloc ?_ ?_ _) | go_size | omega))) h
  have T1 := Lib.hid ((Box.new w #[.int .i64 t0, .int .i64 t1, .int .i64 t2] 23 (n := w.heap.size) rfl).keep h)
  have z1 := B1.size
  clear h AW
  go_wp2_with fail
  refine (CF.out _).mono ?_
  rintro e w2 ⟨rfl, h⟩
  have B2 : Below w.heap.size w w2 := below_via B1 h
  have T2 := Lib.hid (T1.out.keep h)
  have z2 := h.size
  clear h T1 CF hf
  go_upto_region 5 with fail
  have ltt := T2.out.lt
  have K := Lib.hid (fun (w' : World) (hw : Below w2.heap.size w2 w') => show (w'.cell? ⟨w.heap.size, 0, none⟩ = some (.int .i64 t0) ∧ w'.cell? ⟨w.heap.size, 1, none⟩ = some (.int .i64 t1) ∧ w'.cell? ⟨w.heap.size, 2, none⟩ = some (.int .i64 t2)) from ⟨(T2.out.keep hw).cell 0, (T2.out.keep hw).cell 1, (T2.out.keep hw).cell 2⟩)
  go_region_held3 (fun w' => (w'.cell? ⟨w.heap.size, 0, none⟩ = some (.int .i64 t0) ∧ w'.cell? ⟨w.heap.size, 1, none⟩ = some (.int .i64 t1) ∧ w'.cell? ⟨w.heap.size, 2, none⟩ = some (.int .i64 t2)))
    ((refine K.out _ ?_; (repeat' (first | (with_reducible exact Below.refl _ _) | (with_reducible assumption) | (with_reducible refine Below.drew ?_) | (with_reducible refine below_drewN ?_ _) | (with_reducible refine Below.setCell ?_ ?_ _) | (with_reducible refine Below.alloc ?_ ?_ _) | go_size | omega)); done))
    (first | (go_at_call 11; refine (CC.out _ (HP.out.keep (below_via B2 (by (repeat' (first | (with_reducible exact Below.refl _ _) | (with_reducible assumption) | (with_reducible refine Below.drew ?_) | (with_reducible refine below_drewN ?_ _) | (with_reducible refine Below.setCell ?_ ?_ _) | (with_reducible refine Below.alloc ?_ ?_ _) | go_size | omega)))))).mono ?_; rintro e w8 ⟨⟨a8, c8, rfl, hq8⟩, h8⟩; have HQ8 := Lib.hid hq8; have hB8 : Below w2.heap.size w2 w8 := below_via (by (repeat' (first | (with_reducible exact Below.refl _ _) | (with_reducible assumption) | (with_reducible refine Below.drew ?_) | (with_reducible refine below_drewN ?_ _) | (with_reducible refine Below.setCell ?_ ?_ _) | (with_reducible refine Below.alloc ?_ ?_ _) | go_size | omega))) h8; clear h8 hq8; have hz8 := hB8.size; obtain ⟨k0, k1, k2⟩ := K.out w8 hB8) | (go_at_call 19; refine (CM.out _ _ _ (HQ8.out.keep (by (repeat' (first | (with_reducible exact Below.refl _ _) | (with_reducible assumption) | (with_reducible refine Below.drew ?_) | (with_reducible refine below_drewN ?_ _) | (with_reducible refine Below.setCell ?_ ?_ _) | (with_reducible refine Below.alloc ?_ ?_ _) | go_size | omega))))).mono ?_; rintro e w9 ⟨rfl, h9⟩; have hB9 : Below w2.heap.size w2 w9 := below_via (by (repeat' (first | (with_reducible exact Below.refl _ _) | (with_reducible assumption) | (with_reducible refine Below.drew ?_) | (with_reducible refine below_drewN ?_ _) | (with_reducible refine Below.setCell ?_ ?_ _) | (with_reducible refine Below.alloc ?_ ?_ _) | go_size | omega))) h9; have hz9 := hB9.size; clear h9; obtain ⟨k0', k1', k2'⟩ := K.out w9 hB9))
  have B9 : Below w.heap.size w w9 := below_via B2 hB9
  go_wp2_with fail
  refine (CK.out _ (HP.out.keep B9)).mono ?_
  rintro e w10 ⟨rfl, h⟩
  have B10 : Below w.heap.size w w10 := below_via B9 h
  clear h CK
  go_wp2_with fail
  go_ret
  exact ⟨by simp, B10⟩
set_option maxRecDepth 100000 in
set_option maxHeartbeats 6400000 in
theorem lmv_C (l : List Pf) (a : Option Addr) (cap : Nat) (t0 t1 t2 : Int) (w : World) (hl : l.length ≤ 9223372036854775807) (hp : PlAt w a l) (hf : (decide (l.length ≤ 20) || (decide (300 < l.length) && decide (l.length ≤ 305))) = true) (h2 : chkP l = 0) (hm : mvE t0 t1 t2 l = 2) :
    Calls Try.prog 4 #[.slice a l.length cap, vec t0 t1 t2] w fun e w' => e = .returned (.bool true) ∧ Below w.heap.size w w' := by
  have h400 : l.length ≤ 400 := by simp at hf; omega
  have CC := Lib.hid (fun (u : World) (h : PlAt u a l) => copied_any l a cap u h400 h)
  have CK := Lib.hid (fun (u : World) (h : PlAt u a l) => rchkP_any l a cap u hl h)
  have CM := Lib.hid (fun (a : Option Addr) (cap : Nat) (u : World) (h : PlAt u a l) => moveOk_any l a cap t0 t1 t2 u h400 h2 h)
  have RM := Lib.hid (fun (u : World) (h : PlAt u a l) => rmove_any l a cap t0 t1 t2 u h400 (okL_of h2) h)
  have CS := Lib.hid (fun (u : World) => same_any [] none none 0 0 u (by simp) (.inl rfl) (.inl rfl))
  simp only [List.length_nil] at CS
  rw [h2] at CK
  have HM := Lib.hid hm
  clear h2 hm
  have AW := Lib.hid (fun u => awake3_any u)
  have HP := Lib.hid hp; clear hp
  have CF := Lib.hid (fun u => few_any l a cap u hl)
  rw [hf] at CF
  go_enter Try.func4, Try.ntmps4
  go_wp2_with fail
  refine (AW.out _).mono ?_
  rintro e w1 ⟨rfl, h⟩
  have B1 : Below w.heap.size w w1 := below_via (by (repeat' (first | (with_reducible exact Below.refl _ _) | (with_reducible assumption) | (with_reducible refine Below.drew ?_) | (with_reducible refine below_drewN ?_ _) | (with_reducible refine Below.setCell ?_ ?_ _) | (with_reducible refine Below.alloc ?_ ?_ _) | go_size | omega))) h
  have T1 := Lib.hid ((Box.new w #[.int .i64 t0, .int .i64 t1, .int .i64 t2] 23 (n := w.heap.size) rfl).keep h)
  have z1 := B1.size
  clear h AW
  go_wp2_with fail
  refine (CF.out _).mono ?_
  rintro e w2 ⟨rfl, h⟩
  have B2 : Below w.heap.size w w2 := below_via B1 h
  have T2 := Lib.hid (T1.out.keep h)
  have z2 := h.size
  clear h T1 CF hf
  go_upto_region 5 with fail
  have ltt := T2.out.lt
  have K := Lib.hid (fun (w' : World) (hw : Below w2.heap.size w2 w') => show (w'.cell? ⟨w.heap.size, 0, none⟩ = some (.int .i64 t0) ∧ w'.cell? ⟨w.heap.size, 1, none⟩ = some (.int .i64 t1) ∧ w'.cell? ⟨w.heap.size, 2, none⟩ = some (.int .i64 t2)) from ⟨(T2.out.keep hw).cell 0, (T2.out.keep hw).cell 1, (T2.out.keep hw).cell 2⟩)
  go_region_held3 (fun w' => (w'.cell? ⟨w.heap.size, 0, none⟩ = some (.int .i64 t0) ∧ w'.cell? ⟨w.heap.size, 1, none⟩ = some (.int .i64 t1) ∧ w'.cell? ⟨w.heap.size, 2, none⟩ = some (.int .i64 t2)))
    ((refine K.out _ ?_; (repeat' (first | (with_reducible exact Below.refl _ _) | (with_reducible assumption) | (with_reducible refine Below.drew ?_) | (with_reducible refine below_drewN ?_ _) | (with_reducible refine Below.setCell ?_ ?_ _) | (with_reducible refine Below.alloc ?_ ?_ _) | go_size | omega)); done))
    (first | (go_at_call 11; refine (CC.out _ (HP.out.keep (below_via B2 (by (repeat' (first | (with_reducible exact Below.refl _ _) | (with_reducible assumption) | (with_reducible refine Below.drew ?_) | (with_reducible refine below_drewN ?_ _) | (with_reducible refine Below.setCell ?_ ?_ _) | (with_reducible refine Below.alloc ?_ ?_ _) | go_size | omega)))))).mono ?_; rintro e w8 ⟨⟨a8, c8, rfl, hq8⟩, h8⟩; have HQ8 := Lib.hid hq8; have hB8 : Below w2.heap.size w2 w8 := below_via (by (repeat' (first | (with_reducible exact Below.refl _ _) | (with_reducible assumption) | (with_reducible refine Below.drew ?_) | (with_reducible refine below_drewN ?_ _) | (with_reducible refine Below.setCell ?_ ?_ _) | (with_reducible refine Below.alloc ?_ ?_ _) | go_size | omega))) h8; clear h8 hq8; have hz8 := hB8.size; obtain ⟨k0, k1, k2⟩ := K.out w8 hB8) | (go_at_call 19; refine (CM.out _ _ _ (HQ8.out.keep (by (repeat' (first | (with_reducible exact Below.refl _ _) | (with_reducible assumption) | (with_reducible refine Below.drew ?_) | (with_reducible refine below_drewN ?_ _) | (with_reducible refine Below.setCell ?_ ?_ _) | (with_reducible refine Below.alloc ?_ ?_ _) | go_size | omega))))).mono ?_; intro e w9 h9w; obtain ⟨rfl, h9⟩ := mvPost_err HM.out h9w; have hB9 : Below w2.heap.size w2 w9 := below_via (by (repeat' (first | (with_reducible exact Below.refl _ _) | (with_reducible assumption) | (with_reducible refine Below.drew ?_) | (with_reducible refine below_drewN ?_ _) | (with_reducible refine Below.setCell ?_ ?_ _) | (with_reducible refine Below.alloc ?_ ?_ _) | go_size | omega))) h9; have hz9 := hB9.size; clear h9 h9w; obtain ⟨k0', k1', k2'⟩ := K.out w9 hB9))
  have B9 : Below w.heap.size w w9 := below_via B2 hB9
  have T9 := Lib.hid (T2.out.keep hB9)
  clear k0 k1 k2 k0' k1' k2' hB8 hB9 K T2 HQ8
  go_wp2_with fail
  refine (CK.out _ (HP.out.keep B9)).mono ?_
  rintro e w10 ⟨rfl, h⟩
  have B10 : Below w.heap.size w w10 := below_via B9 h
  have T10 := Lib.hid (T9.out.keep h)
  have z10 := h.size
  clear h T9 CK
  obtain ⟨t0', t1', t2', -⟩ := T10.out.three
  have ltt' := T10.out.lt
  go_wp2_with fail
  clear t0' t1' t2' ltt'
  refine (RM.out _ (HP.out.keep B10)).mono ?_
  intro e w11 hw
  obtain ⟨rfl, h⟩ := mvPost_err HM.out hw
  clear hw
  have B11 : Below w.heap.size w w11 := below_via B10 h
  clear h RM
  go_wp2_with fail
  refine (CS.out _).mono ?_
  rintro e w12 ⟨rfl, h⟩
  have B12 : Below w.heap.size w w12 := below_via B11 h
  clear h CS
  go_wp2_with fail
  go_ret
  exact ⟨rfl, B12⟩
set_option maxRecDepth 100000 in
set_option maxHeartbeats 6400000 in
theorem lmv_D (l : List Pf) (a : Option Addr) (cap : Nat) (t0 t1 t2 S0 S1 S2 : Int) (w : World) (hl : l.length ≤ 9223372036854775807) (hp : PlAt w a l) (bv : Bool) (l' : List Pf) (hf : (decide (l.length ≤ 20) || (decide (300 < l.length) && decide (l.length ≤ 305))) = true) (h2 : chkP l = 0) (hm : mvE t0 t1 t2 l = 0) (hl' : l.map (mv t0 t1 t2) = l')
    (CSu : Hid (∀ (a : Option Addr) (cap : Nat) (u : World), PlAt u a l' → Calls Try.prog 17 #[.slice a l.length cap] u fun e w' => e = .returned (.tuple #[vec S0 S1 S2, .int .i64 0]) ∧ Below u.heap.size u w'))
    (CBa : Hid (∀ (a : Option Addr) (cap : Nat) (u : World), PlAt u a l' → Calls Try.prog 18 #[.slice a l.length cap] u fun e w' => e = .returned (.tuple #[.bool bv, .int .i64 0]) ∧ Below u.heap.size u w'))
    (RS : Hid (∀ (u : World), PlAt u a l → Calls Try.prog 15 #[.slice a l.length cap] u fun e w' => e = .returned (vec S0 S1 S2) ∧ Below u.heap.size u w'))
    (RB : Hid (∀ (u : World), PlAt u a l → Calls Try.prog 22 #[.slice a l.length cap] u fun e w' => e = .returned (.bool bv) ∧ Below u.heap.size u w')) :
    Calls Try.prog 4 #[.slice a l.length cap, vec t0 t1 t2] w fun e w' => e = .returned (.bool true) ∧ Below w.heap.size w w' := by
  have h400 : l.length ≤ 400 := by simp at hf; omega
  have CC := Lib.hid (fun (u : World) (h : PlAt u a l) => copied_any l a cap u h400 h)
  have CK := Lib.hid (fun (u : World) (h : PlAt u a l) => rchkP_any l a cap u hl h)
  have CM := Lib.hid (fun (a : Option Addr) (cap : Nat) (u : World) (h : PlAt u a l) => moveOk_any l a cap t0 t1 t2 u h400 h2 h)
  have RM := Lib.hid (fun (u : World) (h : PlAt u a l) => rmove_any l a cap t0 t1 t2 u h400 (okL_of h2) h)
  have hle : l'.length = l.length := by rw [← hl', List.length_map]
  have CS := Lib.hid (fun (a b : Option Addr) (cap cap' : Nat) (u : World) (h1 : PlAt u a l') (h2 : PlAt u b l') => same_any l' a b cap cap' u (by omega) h1 h2)
  rw [hle] at CS
  rw [h2] at CK
  have HM := Lib.hid (And.intro hm hl')
  clear h2 hm hl' hle
  have AW := Lib.hid (fun u => awake3_any u)
  have HP := Lib.hid hp; clear hp
  have CF := Lib.hid (fun u => few_any l a cap u hl)
  rw [hf] at CF
  go_enter Try.func4, Try.ntmps4
  go_wp2_with fail
  refine (AW.out _).mono ?_
  rintro e w1 ⟨rfl, h⟩
  have B1 : Below w.heap.size w w1 := below_via (by (repeat' (first | (with_reducible exact Below.refl _ _) | (with_reducible assumption) | (with_reducible refine Below.drew ?_) | (with_reducible refine below_drewN ?_ _) | (with_reducible refine Below.setCell ?_ ?_ _) | (with_reducible refine Below.alloc ?_ ?_ _) | go_size | omega))) h
  have T1 := Lib.hid ((Box.new w #[.int .i64 t0, .int .i64 t1, .int .i64 t2] 23 (n := w.heap.size) rfl).keep h)
  have z1 := B1.size
  clear h AW
  go_wp2_with fail
  refine (CF.out _).mono ?_
  rintro e w2 ⟨rfl, h⟩
  have B2 : Below w.heap.size w w2 := below_via B1 h
  have T2 := Lib.hid (T1.out.keep h)
  have z2 := h.size
  clear h T1 CF hf
  go_upto_region 5 with fail
  have ltt := T2.out.lt
  have K := Lib.hid (fun (w' : World) (hw : Below w2.heap.size w2 w') => show (w'.cell? ⟨w.heap.size, 0, none⟩ = some (.int .i64 t0) ∧ w'.cell? ⟨w.heap.size, 1, none⟩ = some (.int .i64 t1) ∧ w'.cell? ⟨w.heap.size, 2, none⟩ = some (.int .i64 t2)) from ⟨(T2.out.keep hw).cell 0, (T2.out.keep hw).cell 1, (T2.out.keep hw).cell 2⟩)
  go_region_held3 (fun w' => (w'.cell? ⟨w.heap.size, 0, none⟩ = some (.int .i64 t0) ∧ w'.cell? ⟨w.heap.size, 1, none⟩ = some (.int .i64 t1) ∧ w'.cell? ⟨w.heap.size, 2, none⟩ = some (.int .i64 t2)))
    ((refine K.out _ ?_; (repeat' (first | (with_reducible exact Below.refl _ _) | (with_reducible assumption) | (with_reducible refine Below.drew ?_) | (with_reducible refine below_drewN ?_ _) | (with_reducible refine Below.setCell ?_ ?_ _) | (with_reducible refine Below.alloc ?_ ?_ _) | go_size | omega)); done))
    (first | (go_at_call 11; refine (CC.out _ (HP.out.keep (below_via B2 (by (repeat' (first | (with_reducible exact Below.refl _ _) | (with_reducible assumption) | (with_reducible refine Below.drew ?_) | (with_reducible refine below_drewN ?_ _) | (with_reducible refine Below.setCell ?_ ?_ _) | (with_reducible refine Below.alloc ?_ ?_ _) | go_size | omega)))))).mono ?_; rintro e w8 ⟨⟨a8, c8, rfl, hq8⟩, h8⟩; have HQ8 := Lib.hid hq8; have hB8 : Below w2.heap.size w2 w8 := below_via (by (repeat' (first | (with_reducible exact Below.refl _ _) | (with_reducible assumption) | (with_reducible refine Below.drew ?_) | (with_reducible refine below_drewN ?_ _) | (with_reducible refine Below.setCell ?_ ?_ _) | (with_reducible refine Below.alloc ?_ ?_ _) | go_size | omega))) h8; clear h8 hq8; have hz8 := hB8.size; obtain ⟨k0, k1, k2⟩ := K.out w8 hB8) | (go_at_call 19; refine (CM.out _ _ _ (HQ8.out.keep (by (repeat' (first | (with_reducible exact Below.refl _ _) | (with_reducible assumption) | (with_reducible refine Below.drew ?_) | (with_reducible refine below_drewN ?_ _) | (with_reducible refine Below.setCell ?_ ?_ _) | (with_reducible refine Below.alloc ?_ ?_ _) | go_size | omega))))).mono ?_; intro e w9 h9w; obtain ⟨⟨a9, c9, rfl, hq9⟩, h9⟩ := mvPost_ok HM.out.1 h9w; rw [HM.out.2] at hq9; have HQ9 := Lib.hid hq9; have hB9 : Below w2.heap.size w2 w9 := below_via (by (repeat' (first | (with_reducible exact Below.refl _ _) | (with_reducible assumption) | (with_reducible refine Below.drew ?_) | (with_reducible refine below_drewN ?_ _) | (with_reducible refine Below.setCell ?_ ?_ _) | (with_reducible refine Below.alloc ?_ ?_ _) | go_size | omega))) h9; have hz9 := hB9.size; clear h9 h9w hq9; obtain ⟨k0', k1', k2'⟩ := K.out w9 hB9))
  have B9 : Below w.heap.size w w9 := below_via B2 hB9
  have T9 := Lib.hid (T2.out.keep hB9)
  clear k0 k1 k2 k0' k1' k2' hB8 hB9 K T2 HQ8
  go_wp2_with fail
  refine (CK.out _ (HP.out.keep B9)).mono ?_
  rintro e w10 ⟨rfl, h⟩
  have B10 : Below w.heap.size w w10 := below_via B9 h
  have T10 := Lib.hid (T9.out.keep h)
  have z10 := h.size
  have HQ10 := Lib.hid (HQ9.out.keep h)
  clear h T9 CK HQ9
  obtain ⟨t0', t1', t2', -⟩ := T10.out.three
  have ltt' := T10.out.lt
  go_wp2_with fail
  clear t0' t1' t2' ltt'
  refine (RM.out _ (HP.out.keep B10)).mono ?_
  intro e w11 hw
  obtain ⟨⟨av, cv, rfl, hqv⟩, h⟩ := mvPost_ok HM.out.1 hw
  clear hw
  rw [HM.out.2] at hqv
  have B11 : Below w.heap.size w w11 := below_via B10 h
  have HQ11 := Lib.hid (HQ10.out.keep h); have HV11 := Lib.hid hqv
  have z11 := h.size
  clear h RM hqv HQ10 T10
  go_wp2_with fail
  refine (CS.out _ _ _ _ _ HQ11.out HV11.out).mono ?_
  rintro e w12 ⟨rfl, h⟩
  have B12 : Below w.heap.size w w12 := below_via B11 h
  have HQ12 := Lib.hid (HQ11.out.keep h)
  have z12 := h.size
  clear h CS HQ11 HV11
  go_wp2_with fail
  refine (CSu.out _ _ _ HQ12.out).mono ?_
  rintro e w13 ⟨rfl, h⟩
  have B13 : Below w.heap.size w w13 := below_via B12 h
  have HQ13 := Lib.hid (HQ12.out.keep h)
  have z13 := h.size
  clear h CSu HQ12
  go_wp2_with fail
  refine (CBa.out _ _ _ (HQ13.out.keep (by (repeat' (first | (with_reducible exact Below.refl _ _) | (with_reducible assumption) | (with_reducible refine Below.drew ?_) | (with_reducible refine below_drewN ?_ _) | (with_reducible refine Below.setCell ?_ ?_ _) | (with_reducible refine Below.alloc ?_ ?_ _) | go_size | omega))))).mono ?_
  rintro e w14 ⟨rfl, h⟩
  have B14 : Below w.heap.size w w14 := below_via B13 (below_via (by (repeat' (first | (with_reducible exact Below.refl _ _) | (with_reducible assumption) | (with_reducible refine Below.drew ?_) | (with_reducible refine below_drewN ?_ _) | (with_reducible refine Below.setCell ?_ ?_ _) | (with_reducible refine Below.alloc ?_ ?_ _) | go_size | omega))) h)
  have S14 := Lib.hid ((Box.new w13 #[.int .i64 S0, .int .i64 S1, .int .i64 S2] 23 (n := w13.heap.size) rfl).keep h)
  have z14 := h.size
  simp at z14
  clear h CBa HQ13
  generalize w13.heap.size = sb at *
  have lts := S14.out.lt
  go_wp2_with fail
  have EQS := fun v => eqArr3 S0 S1 S2 S0 S1 S2 v
  simp only [beq_self_eq_true, Bool.and_self] at EQS
  have K := Lib.hid (fun (w' : World) (hw : Below w14.heap.size w14 w') => show (w'.cell? ⟨sb, 0, none⟩ = some (.int .i64 S0) ∧ w'.cell? ⟨sb, 1, none⟩ = some (.int .i64 S1) ∧ w'.cell? ⟨sb, 2, none⟩ = some (.int .i64 S2)) from ⟨(S14.out.keep hw).cell 0, (S14.out.keep hw).cell 1, (S14.out.keep hw).cell 2⟩)
  go_region_held3 (fun w' => (w'.cell? ⟨sb, 0, none⟩ = some (.int .i64 S0) ∧ w'.cell? ⟨sb, 1, none⟩ = some (.int .i64 S1) ∧ w'.cell? ⟨sb, 2, none⟩ = some (.int .i64 S2)))
    ((refine K.out _ ?_; (repeat' (first | (with_reducible exact Below.refl _ _) | (with_reducible assumption) | (with_reducible refine Below.drew ?_) | (with_reducible refine below_drewN ?_ _) | (with_reducible refine Below.setCell ?_ ?_ _) | (with_reducible refine Below.alloc ?_ ?_ _) | go_size | omega)); done))
    (first | (go_at_call 15; refine (RS.out _ (HP.out.keep (below_via B14 (by (repeat' (first | (with_reducible exact Below.refl _ _) | (with_reducible assumption) | (with_reducible refine Below.drew ?_) | (with_reducible refine below_drewN ?_ _) | (with_reducible refine Below.setCell ?_ ?_ _) | (with_reducible refine Below.alloc ?_ ?_ _) | go_size | omega)))))).mono ?_; rintro e w15 ⟨rfl, h⟩; have hB15 : Below w14.heap.size w14 w15 := below_via (by (repeat' (first | (with_reducible exact Below.refl _ _) | (with_reducible assumption) | (with_reducible refine Below.drew ?_) | (with_reducible refine below_drewN ?_ _) | (with_reducible refine Below.setCell ?_ ?_ _) | (with_reducible refine Below.alloc ?_ ?_ _) | go_size | omega))) h; clear h; have hz15 := hB15.size; obtain ⟨a0, a1, a2⟩ := K.out w15 hB15) | (go_at_call 22; refine (RB.out _ (HP.out.keep (below_via B14 (by (repeat' (first | (with_reducible exact Below.refl _ _) | (with_reducible assumption) | (with_reducible refine Below.drew ?_) | (with_reducible refine below_drewN ?_ _) | (with_reducible refine Below.setCell ?_ ?_ _) | (with_reducible refine Below.alloc ?_ ?_ _) | go_size | omega)))))).mono ?_; rintro e w16 ⟨rfl, h⟩; have hB16 : Below w14.heap.size w14 w16 := below_via (by (repeat' (first | (with_reducible exact Below.refl _ _) | (with_reducible assumption) | (with_reducible refine Below.drew ?_) | (with_reducible refine below_drewN ?_ _) | (with_reducible refine Below.setCell ?_ ?_ _) | (with_reducible refine Below.alloc ?_ ?_ _) | go_size | omega))) h; clear h; have hz16 := hB16.size; obtain ⟨b0, b1, b2⟩ := K.out w16 hB16))
  all_goals
    have B16 := below_via B14 hB16
    go_wp2_with fail
    go_ret
    exact ⟨by simp, B16⟩
end Go.Proofs.Ytahfliboanphkaa
