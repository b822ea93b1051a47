/-
  The law PlateBalances: forces that are right.
-/
import Derived.Test.YtahfliboanphkaaLbb
import Derived.Test.YtahfliboanphkaaRmv
import Derived.Test.YtahfliboanphkaaFm2
namespace Go.Proofs.Ytahfliboanphkaa
open Go.RowKit
attribute [local go_sem ↓] Go.wp_at_zero Go.wp_at_succ
set_option maxRecDepth 100000 in
set_option maxHeartbeats 6400000 in
theorem blc_D (l : List Pf) (a : Option Addr) (cap : Nat) (t0 t1 t2 S0 S1 S2 M0 M1 M2 D2 : Int) (w : World) (hl : l.length ≤ 9223372036854775807) (hp : PlAt w a l) (bv : Bool) (hf : (decide (l.length ≤ 20) || (decide (300 < l.length) && decide (l.length ≤ 305))) = true) (h2 : chkP l = 0) (ht : szB 1000000 t0 t1 t2 = true) (hS : Big 4000000000000000000 S0 S1 S2) (hM : Big 4000000000000000000 M0 M1 M2)
    (hbv : (-M0 == 0 && (-M1 == 0 && -M2 == 0)) = bv)
    (CB : Hid (∀ (a : Option Addr) (cap : Nat) (u : World), PlAt u a l → Calls Try.prog 10 #[.slice a l.length cap, vec t0 t1 t2] u fun e w' => e = .returned (.tuple #[pul t0 t1 t2 (-S0) (-S1) (-S2), vec (-M0) (-M1) (-M2), .int .i64 0]) ∧ Below u.heap.size u w'))
    (RS : Hid (∀ (u : World), PlAt u a l → Calls Try.prog 15 #[.slice a l.length cap] u fun e w' => e = .returned (vec S0 S1 S2) ∧ Below u.heap.size u w'))
    (RMo : Hid (∀ (u : World), PlAt u a l → Calls Try.prog 16 #[.slice a l.length cap, vec t0 t1 t2] u fun e w' => e = .returned (vec M0 M1 M2) ∧ Below u.heap.size u w'))
    (RC : Hid (∀ (a : Option Addr) (cap : Nat) (u : World), PlAt u a (l ++ [⟨t0, t1, t2, -S0, -S1, -S2⟩]) → Calls Try.prog 12 #[.slice a (l.length + 1) cap] u fun e w' => e = .returned (.int .i64 D2) ∧ Below u.heap.size u w'))
    (CSu : D2 = 0 → Hid (∀ (a : Option Addr) (cap : Nat) (u : World), PlAt u a (l ++ [⟨t0, t1, t2, -S0, -S1, -S2⟩]) → Calls Try.prog 17 #[.slice a (l.length + 1) cap] u fun e w' => e = .returned (.tuple #[vec 0 0 0, .int .i64 0]) ∧ Below u.heap.size u w'))
    (CBa : D2 = 0 → Hid (∀ (a : Option Addr) (cap : Nat) (u : World), PlAt u a (l ++ [⟨t0, t1, t2, -S0, -S1, -S2⟩]) → Calls Try.prog 18 #[.slice a (l.length + 1) cap] u fun e w' => e = .returned (.tuple #[.bool bv, .int .i64 0]) ∧ Below u.heap.size u w')) :
    Calls Try.prog 3 #[.slice a l.length cap, vec t0 t1 t2] w fun e w' => e = .returned (.bool true) ∧ Below w.heap.size w w' := by
  obtain ⟨i0, hi0, hz0, hz1, hz2⟩ := info_parts infoP
  have h400 : l.length ≤ 400 := by simp at hf; omega
  have CC := Lib.hid (fun (u : World) (h : PlAt u a l) => copied_any l a cap u h400 h)
  have CK := Lib.hid (fun (u : World) (h : PlAt u a l) => rchkP_any l a cap u hl h)
  have CI := Lib.hid (fun u => risPlace_any t0 t1 t2 u)
  have CO := Lib.hid (fun (u : World) (h : PlAt u a l) => copied_own l a cap u h400 h)
  have CM1 := Lib.hid (fun u => rminus_any 0 0 0 S0 S1 S2 u (by unfold Big; omega) hS)
  have CM2 := Lib.hid (fun u => rminus_any 0 0 0 M0 M1 M2 u (by unfold Big; omega) hM)
  simp only [Int.zero_sub] at CM1 CM2
  have HB := Lib.hid hbv
  rw [h2] at CK
  rw [ht] at CI
  clear h2 ht hS hM hbv
  have AW := Lib.hid (fun u => awake3_any u)
  have HP := Lib.hid hp; clear hp
  have CF := Lib.hid (fun u => few_any l a cap u hl)
  rw [hf] at CF
  go_enter Try.func3, Try.ntmps3
  go_wp2_with fail
  refine (AW.out _).mono ?_
  rintro e w1 ⟨rfl, h⟩
  have B1 : Below w.heap.size w w1 := below_via (by (repeat' (first | (with_reducible exact Below.refl _ _) | (with_reducible assumption) | (with_reducible refine Below.drew ?_) | (with_reducible refine below_drewN ?_ _) | (with_reducible refine Below.setCell ?_ ?_ _) | (with_reducible refine Below.alloc ?_ ?_ _) | go_size | omega))) h
  have T1 := Lib.hid ((Box.new w #[.int .i64 t0, .int .i64 t1, .int .i64 t2] 23 (n := w.heap.size) rfl).keep h)
  have z1 := B1.size
  clear h AW
  go_wp2_with fail
  refine (CF.out _).mono ?_
  rintro e w2 ⟨rfl, h⟩
  have B2 : Below w.heap.size w w2 := below_via B1 h
  have T2 := Lib.hid (T1.out.keep h)
  have z2 := h.size
  clear h T1 CF hf
  go_upto_region 5 with fail
  have ltt := T2.out.lt
  go_cut [5, 6, 7] (fun s5 s6 s7 wx => ∃ xb mb : Nat, s5 = .pointer (some ⟨xb, 0, none⟩) ∧ s6 = .pointer (some ⟨mb, 0, none⟩) ∧ s7 = .int .i64 0 ∧ Box wx xb #[.int .i64 t0, .int .i64 t1, .int .i64 t2, .int .i64 (-S0), .int .i64 (-S1), .int .i64 (-S2)] 27 ∧ Box wx mb #[.int .i64 (-M0), .int .i64 (-M1), .int .i64 (-M2)] 23 ∧ Below w2.heap.size w2 wx)
  case first =>
    have K := Lib.hid (fun (w' : World) (hw : Below w2.heap.size w2 w') => show (w'.cell? ⟨w.heap.size, 0, none⟩ = some (.int .i64 t0) ∧ w'.cell? ⟨w.heap.size, 1, none⟩ = some (.int .i64 t1) ∧ w'.cell? ⟨w.heap.size, 2, none⟩ = some (.int .i64 t2)) from ⟨(T2.out.keep hw).cell 0, (T2.out.keep hw).cell 1, (T2.out.keep hw).cell 2⟩)
    go_region_held3 (fun w' => (w'.cell? ⟨w.heap.size, 0, none⟩ = some (.int .i64 t0) ∧ w'.cell? ⟨w.heap.size, 1, none⟩ = some (.int .i64 t1) ∧ w'.cell? ⟨w.heap.size, 2, none⟩ = some (.int .i64 t2)))
      ((refine K.out _ ?_; (repeat' (first | (with_reducible exact Below.refl _ _) | (with_reducible assumption) | (with_reducible refine Below.drew ?_) | (with_reducible refine below_drewN ?_ _) | (with_reducible refine Below.setCell ?_ ?_ _) | (with_reducible refine Below.alloc ?_ ?_ _) | go_size | omega)); done))
      (first | (go_at_call 11; refine (CC.out _ (HP.out.keep (below_via B2 (by (repeat' (first | (with_reducible exact Below.refl _ _) | (with_reducible assumption) | (with_reducible refine Below.drew ?_) | (with_reducible refine below_drewN ?_ _) | (with_reducible refine Below.setCell ?_ ?_ _) | (with_reducible refine Below.alloc ?_ ?_ _) | go_size | omega)))))).mono ?_; rintro e w8 ⟨⟨a8, c8, rfl, hq8⟩, h8⟩; have HQ8 := Lib.hid hq8; (first | (with_reducible have NX := Lib.hid (Box.keep (n1 w2 #[.int .i64 0, .int .i64 0, .int .i64 0, .int .i64 0, .int .i64 0, .int .i64 0] 27) h8)) | (with_reducible have NX := Lib.hid (Box.keep (n1d w2 #[.int .i64 0, .int .i64 0, .int .i64 0, .int .i64 0, .int .i64 0, .int .i64 0] 27) h8)) | (with_reducible have NX := Lib.hid (Box.keep (n2 w2 #[.int .i64 0, .int .i64 0, .int .i64 0, .int .i64 0, .int .i64 0, .int .i64 0] 27 (.cells #[.int .i64 0, .int .i64 0, .int .i64 0] 23)) h8)) | (with_reducible have NX := Lib.hid (Box.keep (n2d w2 #[.int .i64 0, .int .i64 0, .int .i64 0, .int .i64 0, .int .i64 0, .int .i64 0] 27 (.cells #[.int .i64 0, .int .i64 0, .int .i64 0] 23)) h8)) | (with_reducible have NX := Lib.hid (Box.keep (n3 w2 #[.int .i64 0, .int .i64 0, .int .i64 0, .int .i64 0, .int .i64 0, .int .i64 0] 27 (.cells #[.int .i64 0, .int .i64 0, .int .i64 0] 23)) h8)) | (with_reducible have NX := Lib.hid (Box.keep (n3d w2 #[.int .i64 0, .int .i64 0, .int .i64 0, .int .i64 0, .int .i64 0, .int .i64 0] 27 (.cells #[.int .i64 0, .int .i64 0, .int .i64 0] 23)) h8)) | skip); (first | (with_reducible have NM := Lib.hid (Box.keep (n1 w2 #[.int .i64 0, .int .i64 0, .int .i64 0] 23) h8)) | (with_reducible have NM := Lib.hid (Box.keep (n1d w2 #[.int .i64 0, .int .i64 0, .int .i64 0] 23) h8)) | (with_reducible have NM := Lib.hid (Box.keep (n2 w2 #[.int .i64 0, .int .i64 0, .int .i64 0] 23 (.cells #[.int .i64 0, .int .i64 0, .int .i64 0, .int .i64 0, .int .i64 0, .int .i64 0] 27)) h8)) | (with_reducible have NM := Lib.hid (Box.keep (n2d w2 #[.int .i64 0, .int .i64 0, .int .i64 0] 23 (.cells #[.int .i64 0, .int .i64 0, .int .i64 0, .int .i64 0, .int .i64 0, .int .i64 0] 27)) h8)) | (with_reducible have NM := Lib.hid (Box.keep (n3 w2 #[.int .i64 0, .int .i64 0, .int .i64 0] 23 (.cells #[.int .i64 0, .int .i64 0, .int .i64 0, .int .i64 0, .int .i64 0, .int .i64 0] 27)) h8)) | (with_reducible have NM := Lib.hid (Box.keep (n3d w2 #[.int .i64 0, .int .i64 0, .int .i64 0] 23 (.cells #[.int .i64 0, .int .i64 0, .int .i64 0, .int .i64 0, .int .i64 0, .int .i64 0] 27)) h8)) | skip); have hB8 : Below w2.heap.size w2 w8 := below_via (by (repeat' (first | (with_reducible exact Below.refl _ _) | (with_reducible assumption) | (with_reducible refine Below.drew ?_) | (with_reducible refine below_drewN ?_ _) | (with_reducible refine Below.setCell ?_ ?_ _) | (with_reducible refine Below.alloc ?_ ?_ _) | go_size | omega))) h8; clear h8 hq8; have hz8 := hB8.size; obtain ⟨k0, k1, k2⟩ := K.out w8 hB8) | (go_at_call 10; refine (CB.out _ _ _ (HQ8.out.keep (by (repeat' (first | (with_reducible exact Below.refl _ _) | (with_reducible assumption) | (with_reducible refine Below.drew ?_) | (with_reducible refine below_drewN ?_ _) | (with_reducible refine Below.setCell ?_ ?_ _) | (with_reducible refine Below.alloc ?_ ?_ _) | go_size | omega))))).mono ?_; rintro e w9 ⟨rfl, h9⟩; (first | (with_reducible have NX9 := Lib.hid (Box.keep (NX.out) h9)) | (with_reducible have NX9 := Lib.hid (Box.keep (NX.out.alloc (.cells #[.int .i64 0, .int .i64 0, .int .i64 0] 23)) h9)) | (with_reducible have NX9 := Lib.hid (Box.keep (n1 w8 #[.int .i64 0, .int .i64 0, .int .i64 0, .int .i64 0, .int .i64 0, .int .i64 0] 27) h9)) | (with_reducible have NX9 := Lib.hid (Box.keep (n2 w8 #[.int .i64 0, .int .i64 0, .int .i64 0, .int .i64 0, .int .i64 0, .int .i64 0] 27 (.cells #[.int .i64 0, .int .i64 0, .int .i64 0] 23)) h9)) | (with_reducible have NX9 := Lib.hid (Box.keep (n3 w8 #[.int .i64 0, .int .i64 0, .int .i64 0, .int .i64 0, .int .i64 0, .int .i64 0] 27 (.cells #[.int .i64 0, .int .i64 0, .int .i64 0] 23)) h9)) | (with_reducible have NX9 := Lib.hid (Box.keep (Box.drew NX.out) h9)) | (with_reducible have NX9 := Lib.hid (Box.keep (n1d w8 #[.int .i64 0, .int .i64 0, .int .i64 0, .int .i64 0, .int .i64 0, .int .i64 0] 27) h9)) | (with_reducible have NX9 := Lib.hid (Box.keep (n2d w8 #[.int .i64 0, .int .i64 0, .int .i64 0, .int .i64 0, .int .i64 0, .int .i64 0] 27 (.cells #[.int .i64 0, .int .i64 0, .int .i64 0] 23)) h9)) | (with_reducible have NX9 := Lib.hid (Box.keep (n3d w8 #[.int .i64 0, .int .i64 0, .int .i64 0, .int .i64 0, .int .i64 0, .int .i64 0] 27 (.cells #[.int .i64 0, .int .i64 0, .int .i64 0] 23)) h9)) | skip); (first | (with_reducible have NM9 := Lib.hid (Box.keep (NM.out) h9)) | (with_reducible have NM9 := Lib.hid (Box.keep (NM.out.alloc (.cells #[.int .i64 0, .int .i64 0, .int .i64 0, .int .i64 0, .int .i64 0, .int .i64 0] 27)) h9)) | (with_reducible have NM9 := Lib.hid (Box.keep (n1 w8 #[.int .i64 0, .int .i64 0, .int .i64 0] 23) h9)) | (with_reducible have NM9 := Lib.hid (Box.keep (n2 w8 #[.int .i64 0, .int .i64 0, .int .i64 0] 23 (.cells #[.int .i64 0, .int .i64 0, .int .i64 0, .int .i64 0, .int .i64 0, .int .i64 0] 27)) h9)) | (with_reducible have NM9 := Lib.hid (Box.keep (n3 w8 #[.int .i64 0, .int .i64 0, .int .i64 0] 23 (.cells #[.int .i64 0, .int .i64 0, .int .i64 0, .int .i64 0, .int .i64 0, .int .i64 0] 27)) h9)) | (with_reducible have NM9 := Lib.hid (Box.keep (Box.drew NM.out) h9)) | (with_reducible have NM9 := Lib.hid (Box.keep (n1d w8 #[.int .i64 0, .int .i64 0, .int .i64 0] 23) h9)) | (with_reducible have NM9 := Lib.hid (Box.keep (n2d w8 #[.int .i64 0, .int .i64 0, .int .i64 0] 23 (.cells #[.int .i64 0, .int .i64 0, .int .i64 0, .int .i64 0, .int .i64 0, .int .i64 0] 27)) h9)) | (with_reducible have NM9 := Lib.hid (Box.keep (n3d w8 #[.int .i64 0, .int .i64 0, .int .i64 0] 23 (.cells #[.int .i64 0, .int .i64 0, .int .i64 0, .int .i64 0, .int .i64 0, .int .i64 0] 27)) h9)) | skip); have hB9 : Below w2.heap.size w2 w9 := below_via (by (repeat' (first | (with_reducible exact Below.refl _ _) | (with_reducible assumption) | (with_reducible refine Below.drew ?_) | (with_reducible refine below_drewN ?_ _) | (with_reducible refine Below.setCell ?_ ?_ _) | (with_reducible refine Below.alloc ?_ ?_ _) | go_size | omega))) h9; have hz98 := h9.size; clear h9; have hz9 := hB9.size; obtain ⟨k0', k1', k2'⟩ := K.out w9 hB9; (first | (have hne := box_ne NX9.out NM9.out (by simp); have hne' := Ne.symm hne) | skip); (first | (obtain ⟨⟨o0, o1, o2, o3, o4, o5⟩, f0, f1, f2, f3, f4, f5⟩ := box9 NX9.out; have lo := NX9.out.lt) | skip); (first | (obtain ⟨p0, p1, p2, g0, g1, g2⟩ := NM9.out.three; have lp := NM9.out.lt) | skip)))
    all_goals go_wp2_with fail
    all_goals go_meet
    · exact ⟨_, _, rfl, rfl, rfl, n2 _ _ _ _, n3 _ _ _ _, by (repeat' (first | (with_reducible exact Below.refl _ _) | (with_reducible assumption) | (with_reducible refine Below.drew ?_) | (with_reducible refine below_drewN ?_ _) | (with_reducible refine Below.setCell ?_ ?_ _) | (with_reducible refine Below.alloc ?_ ?_ _) | go_size | omega))⟩
    · exact ⟨_, _, rfl, rfl, rfl, n3 _ _ _ _, n2 _ _ _ _, by (repeat' (first | (with_reducible exact Below.refl _ _) | (with_reducible assumption) | (with_reducible refine Below.drew ?_) | (with_reducible refine below_drewN ?_ _) | (with_reducible refine Below.setCell ?_ ?_ _) | (with_reducible refine Below.alloc ?_ ?_ _) | go_size | omega))⟩
    · exact ⟨_, _, rfl, rfl, rfl, (store6 NX9.out _ _ _ _ _ _).alloc _, Box.new _ _ _ (by simp), by (repeat' (first | (with_reducible exact Below.refl _ _) | (with_reducible assumption) | (with_reducible refine Below.drew ?_) | (with_reducible refine below_drewN ?_ _) | (with_reducible refine Below.setCell ?_ ?_ _) | (with_reducible refine Below.alloc ?_ ?_ _) | go_size | omega))⟩
    · exact ⟨_, _, rfl, rfl, rfl, others3 (store6 NX9.out _ _ _ _ _ _) hne _ _ _, store3 (others6 NM9.out hne' _ _ _ _ _ _) _ _ _, by (repeat' (first | (with_reducible exact Below.refl _ _) | (with_reducible assumption) | (with_reducible refine Below.drew ?_) | (with_reducible refine below_drewN ?_ _) | (with_reducible refine Below.setCell ?_ ?_ _) | (with_reducible refine Below.alloc ?_ ?_ _) | go_size | omega))⟩
    · exact ⟨_, _, rfl, rfl, rfl, Box.new _ _ _ (by simp), (store3 NM9.out _ _ _).alloc _, by (repeat' (first | (with_reducible exact Below.refl _ _) | (with_reducible assumption) | (with_reducible refine Below.drew ?_) | (with_reducible refine below_drewN ?_ _) | (with_reducible refine Below.setCell ?_ ?_ _) | (with_reducible refine Below.alloc ?_ ?_ _) | go_size | omega))⟩
    · exact ⟨_, _, rfl, rfl, rfl, others3 (store6 NX9.out _ _ _ _ _ _) hne _ _ _, store3 (others6 NM9.out hne' _ _ _ _ _ _) _ _ _, by (repeat' (first | (with_reducible exact Below.refl _ _) | (with_reducible assumption) | (with_reducible refine Below.drew ?_) | (with_reducible refine below_drewN ?_ _) | (with_reducible refine Below.setCell ?_ ?_ _) | (with_reducible refine Below.alloc ?_ ?_ _) | go_size | omega))⟩
    · exact ⟨_, _, rfl, rfl, rfl, (store6 NX9.out _ _ _ _ _ _).alloc _, Box.new _ _ _ (by simp), by (repeat' (first | (with_reducible exact Below.refl _ _) | (with_reducible assumption) | (with_reducible refine Below.drew ?_) | (with_reducible refine below_drewN ?_ _) | (with_reducible refine Below.setCell ?_ ?_ _) | (with_reducible refine Below.alloc ?_ ?_ _) | go_size | omega))⟩
    · exact ⟨_, _, rfl, rfl, rfl, others3 (store6 NX9.out _ _ _ _ _ _) hne _ _ _, store3 (others6 NM9.out hne' _ _ _ _ _ _) _ _ _, by (repeat' (first | (with_reducible exact Below.refl _ _) | (with_reducible assumption) | (with_reducible refine Below.drew ?_) | (with_reducible refine below_drewN ?_ _) | (with_reducible refine Below.setCell ?_ ?_ _) | (with_reducible refine Below.alloc ?_ ?_ _) | go_size | omega))⟩
    · exact ⟨_, _, rfl, rfl, rfl, others3 (store6 NX9.out _ _ _ _ _ _) hne _ _ _, store3 (others6 NM9.out hne' _ _ _ _ _ _) _ _ _, by (repeat' (first | (with_reducible exact Below.refl _ _) | (with_reducible assumption) | (with_reducible refine Below.drew ?_) | (with_reducible refine below_drewN ?_ _) | (with_reducible refine Below.setCell ?_ ?_ _) | (with_reducible refine Below.alloc ?_ ?_ _) | go_size | omega))⟩
    · exact ⟨_, _, rfl, rfl, rfl, Box.new _ _ _ (by simp), (store3 NM9.out _ _ _).alloc _, by (repeat' (first | (with_reducible exact Below.refl _ _) | (with_reducible assumption) | (with_reducible refine Below.drew ?_) | (with_reducible refine below_drewN ?_ _) | (with_reducible refine Below.setCell ?_ ?_ _) | (with_reducible refine Below.alloc ?_ ?_ _) | go_size | omega))⟩
    · exact ⟨_, _, rfl, rfl, rfl, others3 (store6 NX9.out _ _ _ _ _ _) hne _ _ _, store3 (others6 NM9.out hne' _ _ _ _ _ _) _ _ _, by (repeat' (first | (with_reducible exact Below.refl _ _) | (with_reducible assumption) | (with_reducible refine Below.drew ?_) | (with_reducible refine below_drewN ?_ _) | (with_reducible refine Below.setCell ?_ ?_ _) | (with_reducible refine Below.alloc ?_ ?_ _) | go_size | omega))⟩
    · exact ⟨_, _, rfl, rfl, rfl, others3 (store6 NX9.out _ _ _ _ _ _) hne _ _ _, store3 (others6 NM9.out hne' _ _ _ _ _ _) _ _ _, by (repeat' (first | (with_reducible exact Below.refl _ _) | (with_reducible assumption) | (with_reducible refine Below.drew ?_) | (with_reducible refine below_drewN ?_ _) | (with_reducible refine Below.setCell ?_ ?_ _) | (with_reducible refine Below.alloc ?_ ?_ _) | go_size | omega))⟩
  obtain ⟨xb, mb, rfl, rfl, rfl, hxb, hmb, hcB⟩ := hcut
  obtain ⟨w5, rfl⟩ : ∃ x : World, x = wc := ⟨_, rfl⟩
  have B5 : Below w.heap.size w w5 := below_via B2 hcB
  have T5 := Lib.hid (T2.out.keep hcB); have X5 := Lib.hid hxb; have M5 := Lib.hid hmb
  have z5 := hcB.size
  clear hcB hxb hmb T2 ltt
  go_wp2_with fail
  refine (CK.out _ (HP.out.keep B5)).mono ?_
  rintro e w6 ⟨rfl, h⟩
  have B6 : Below w.heap.size w w6 := below_via B5 h
  have T6 := Lib.hid (T5.out.keep h); have X6 := Lib.hid (X5.out.keep h); have M6 := Lib.hid (M5.out.keep h)
  have z6 := h.size
  clear h T5 X5 M5 CK
  obtain ⟨t0', t1', t2', -⟩ := T6.out.three
  have ltt := T6.out.lt
  go_wp2_with fail
  clear t0' t1' t2' ltt
  refine (CI.out _).mono ?_
  rintro e w7 ⟨rfl, h⟩
  have B7 : Below w.heap.size w w7 := below_via B6 h
  have T7 := Lib.hid (T6.out.keep h); have X7 := Lib.hid (X6.out.keep h); have M7 := Lib.hid (M6.out.keep h)
  have z7 := h.size
  clear h T6 X6 M6 CI CB
  go_upto_region 12 with fail
  have T8 := Lib.hid (T7.out.alloc (.cells #[.int .i64 0, .int .i64 0, .int .i64 0] 23)); have X8 := Lib.hid (X7.out.alloc (.cells #[.int .i64 0, .int .i64 0, .int .i64 0] 23)); have M8 := Lib.hid (M7.out.alloc (.cells #[.int .i64 0, .int .i64 0, .int .i64 0] 23))
  have Z8 := Lib.hid (n1 w7 #[.int .i64 0, .int .i64 0, .int .i64 0] 23)
  have B8 : Below w.heap.size w (w7.alloc (.cells #[.int .i64 0, .int .i64 0, .int .i64 0] 23)) := by (repeat' (first | (with_reducible exact Below.refl _ _) | (with_reducible assumption) | (with_reducible refine Below.drew ?_) | (with_reducible refine below_drewN ?_ _) | (with_reducible refine Below.setCell ?_ ?_ _) | (with_reducible refine Below.alloc ?_ ?_ _) | go_size | omega))
  have z8 : w7.heap.size ≤ (w7.alloc (.cells #[.int .i64 0, .int .i64 0, .int .i64 0] 23)).heap.size := by simp
  generalize (w7.alloc (.cells #[.int .i64 0, .int .i64 0, .int .i64 0] 23)) = w8 at *
  generalize w7.heap.size = zb at *
  clear T7 X7 M7
  have lt8 := T8.out.lt; have lx8 := X8.out.lt; have lm8 := M8.out.lt; have lz8 := Z8.out.lt
  have EQA := fun v => eqArr3 t0 t1 t2 t0 t1 t2 v
  have EQS := fun v => eqArr3 (-S0) (-S1) (-S2) (-S0) (-S1) (-S2) v
  have EQM := fun v => eqArr3 (-M0) (-M1) (-M2) (-M0) (-M1) (-M2) v
  simp only [beq_self_eq_true, Bool.and_self] at EQA EQS EQM
  have K := Lib.hid (fun (w' : World) (hw : Below w8.heap.size w8 w') => show (w'.cell? ⟨w.heap.size, 0, none⟩ = some (.int .i64 t0) ∧ w'.cell? ⟨w.heap.size, 1, none⟩ = some (.int .i64 t1) ∧ w'.cell? ⟨w.heap.size, 2, none⟩ = some (.int .i64 t2)) ∧ (w'.cell? ⟨xb, 0, none⟩ = some (.int .i64 t0) ∧ w'.cell? ⟨xb, 1, none⟩ = some (.int .i64 t1) ∧ w'.cell? ⟨xb, 2, none⟩ = some (.int .i64 t2) ∧ w'.cell? ⟨xb, 3, none⟩ = some (.int .i64 (-S0)) ∧ w'.cell? ⟨xb, 4, none⟩ = some (.int .i64 (-S1)) ∧ w'.cell? ⟨xb, 5, none⟩ = some (.int .i64 (-S2))) ∧ (w'.cell? ⟨mb, 0, none⟩ = some (.int .i64 (-M0)) ∧ w'.cell? ⟨mb, 1, none⟩ = some (.int .i64 (-M1)) ∧ w'.cell? ⟨mb, 2, none⟩ = some (.int .i64 (-M2))) ∧ (w'.cell? ⟨zb, 0, none⟩ = some (.int .i64 0) ∧ w'.cell? ⟨zb, 1, none⟩ = some (.int .i64 0) ∧ w'.cell? ⟨zb, 2, none⟩ = some (.int .i64 0)) from ⟨⟨(T8.out.keep hw).cell 0, (T8.out.keep hw).cell 1, (T8.out.keep hw).cell 2⟩, ⟨(X8.out.keep hw).cell 0, (X8.out.keep hw).cell 1, (X8.out.keep hw).cell 2, (X8.out.keep hw).cell 3, (X8.out.keep hw).cell 4, (X8.out.keep hw).cell 5⟩, ⟨(M8.out.keep hw).cell 0, (M8.out.keep hw).cell 1, (M8.out.keep hw).cell 2⟩, ⟨(Z8.out.keep hw).cell 0, (Z8.out.keep hw).cell 1, (Z8.out.keep hw).cell 2⟩⟩)
  go_cut [78] (fun s78 wx => s78 = .bool false ∧ Below w8.heap.size w8 wx)
  case first =>
    go_region_held3 (fun w' => (w'.cell? ⟨w.heap.size, 0, none⟩ = some (.int .i64 t0) ∧ w'.cell? ⟨w.heap.size, 1, none⟩ = some (.int .i64 t1) ∧ w'.cell? ⟨w.heap.size, 2, none⟩ = some (.int .i64 t2)) ∧ (w'.cell? ⟨xb, 0, none⟩ = some (.int .i64 t0) ∧ w'.cell? ⟨xb, 1, none⟩ = some (.int .i64 t1) ∧ w'.cell? ⟨xb, 2, none⟩ = some (.int .i64 t2) ∧ w'.cell? ⟨xb, 3, none⟩ = some (.int .i64 (-S0)) ∧ w'.cell? ⟨xb, 4, none⟩ = some (.int .i64 (-S1)) ∧ w'.cell? ⟨xb, 5, none⟩ = some (.int .i64 (-S2))) ∧ (w'.cell? ⟨mb, 0, none⟩ = some (.int .i64 (-M0)) ∧ w'.cell? ⟨mb, 1, none⟩ = some (.int .i64 (-M1)) ∧ w'.cell? ⟨mb, 2, none⟩ = some (.int .i64 (-M2))) ∧ (w'.cell? ⟨zb, 0, none⟩ = some (.int .i64 0) ∧ w'.cell? ⟨zb, 1, none⟩ = some (.int .i64 0) ∧ w'.cell? ⟨zb, 2, none⟩ = some (.int .i64 0)))
      ((refine K.out _ ?_; (repeat' (first | (with_reducible exact Below.refl _ _) | (with_reducible assumption) | (with_reducible refine Below.drew ?_) | (with_reducible refine below_drewN ?_ _) | (with_reducible refine Below.setCell ?_ ?_ _) | (with_reducible refine Below.alloc ?_ ?_ _) | go_size | omega)); done))
      (first | (go_at_call 15; refine (RS.out _ (HP.out.keep (below_via B8 (by (repeat' (first | (with_reducible exact Below.refl _ _) | (with_reducible assumption) | (with_reducible refine Below.drew ?_) | (with_reducible refine below_drewN ?_ _) | (with_reducible refine Below.setCell ?_ ?_ _) | (with_reducible refine Below.alloc ?_ ?_ _) | go_size | omega)))))).mono ?_; rintro e w9 ⟨rfl, h9⟩; have hB9 : Below w8.heap.size w8 w9 := below_via (by (repeat' (first | (with_reducible exact Below.refl _ _) | (with_reducible assumption) | (with_reducible refine Below.drew ?_) | (with_reducible refine below_drewN ?_ _) | (with_reducible refine Below.setCell ?_ ?_ _) | (with_reducible refine Below.alloc ?_ ?_ _) | go_size | omega))) h9; clear h9; have hz9 := hB9.size; obtain ⟨⟨k0_0, k0_1, k0_2⟩, ⟨k1_0, k1_1, k1_2, k1_3, k1_4, k1_5⟩, ⟨k2_0, k2_1, k2_2⟩, ⟨k3_0, k3_1, k3_2⟩⟩ := K.out w9 hB9) | (go_at_call 16; refine (RMo.out _ (HP.out.keep (below_via B8 (by (repeat' (first | (with_reducible exact Below.refl _ _) | (with_reducible assumption) | (with_reducible refine Below.drew ?_) | (with_reducible refine below_drewN ?_ _) | (with_reducible refine Below.setCell ?_ ?_ _) | (with_reducible refine Below.alloc ?_ ?_ _) | go_size | omega)))))).mono ?_; rintro e w10 ⟨rfl, h10⟩; have hB10 : Below w8.heap.size w8 w10 := below_via (by (repeat' (first | (with_reducible exact Below.refl _ _) | (with_reducible assumption) | (with_reducible refine Below.drew ?_) | (with_reducible refine below_drewN ?_ _) | (with_reducible refine Below.setCell ?_ ?_ _) | (with_reducible refine Below.alloc ?_ ?_ _) | go_size | omega))) h10; clear h10; have hz10 := hB10.size; obtain ⟨⟨k0_0, k0_1, k0_2⟩, ⟨k1_0, k1_1, k1_2, k1_3, k1_4, k1_5⟩, ⟨k2_0, k2_1, k2_2⟩, ⟨k3_0, k3_1, k3_2⟩⟩ := K.out w10 hB10) | (go_at_call 14; (with_reducible refine (CM1.out _).mono ?_); rintro e w11 ⟨rfl, h11⟩; have hB11 : Below w8.heap.size w8 w11 := below_via (by (repeat' (first | (with_reducible exact Below.refl _ _) | (with_reducible assumption) | (with_reducible refine Below.drew ?_) | (with_reducible refine below_drewN ?_ _) | (with_reducible refine Below.setCell ?_ ?_ _) | (with_reducible refine Below.alloc ?_ ?_ _) | go_size | omega))) h11; clear h11; have hz11 := hB11.size; obtain ⟨⟨k0_0, k0_1, k0_2⟩, ⟨k1_0, k1_1, k1_2, k1_3, k1_4, k1_5⟩, ⟨k2_0, k2_1, k2_2⟩, ⟨k3_0, k3_1, k3_2⟩⟩ := K.out w11 hB11) | (go_at_call 14; (with_reducible refine (CM2.out _).mono ?_); rintro e w11 ⟨rfl, h11⟩; have hB11 : Below w8.heap.size w8 w11 := below_via (by (repeat' (first | (with_reducible exact Below.refl _ _) | (with_reducible assumption) | (with_reducible refine Below.drew ?_) | (with_reducible refine below_drewN ?_ _) | (with_reducible refine Below.setCell ?_ ?_ _) | (with_reducible refine Below.alloc ?_ ?_ _) | go_size | omega))) h11; clear h11; have hz11 := hB11.size; obtain ⟨⟨k0_0, k0_1, k0_2⟩, ⟨k1_0, k1_1, k1_2, k1_3, k1_4, k1_5⟩, ⟨k2_0, k2_1, k2_2⟩, ⟨k3_0, k3_1, k3_2⟩⟩ := K.out w11 hB11))
    all_goals
      go_wp2_with fail
      go_meet
      exact ⟨rfl, by (repeat' (first | (with_reducible exact Below.refl _ _) | (with_reducible assumption) | (with_reducible refine Below.drew ?_) | (with_reducible refine below_drewN ?_ _) | (with_reducible refine Below.setCell ?_ ?_ _) | (with_reducible refine Below.alloc ?_ ?_ _) | go_size | omega))⟩
  obtain ⟨rfl, hcB⟩ := hcut
  obtain ⟨w12, rfl⟩ : ∃ x : World, x = wc := ⟨_, rfl⟩
  have B12 : Below w.heap.size w w12 := below_via B8 hcB
  have X12 := Lib.hid (X8.out.keep hcB); have M12 := Lib.hid (M8.out.keep hcB); have Z12 := Lib.hid (Z8.out.keep hcB)
  have z12 := hcB.size
  clear hcB K EQA EQS EQM T8 X8 M8 Z8 lt8 lx8 lm8 lz8 RS RMo CM1 CM2
  go_upto_region 14 with fail
  have K := Lib.hid (fun (w' : World) (hw : Below w12.heap.size w12 w') => show (w'.cell? ⟨xb, 0, none⟩ = some (.int .i64 t0) ∧ w'.cell? ⟨xb, 1, none⟩ = some (.int .i64 t1) ∧ w'.cell? ⟨xb, 2, none⟩ = some (.int .i64 t2) ∧ w'.cell? ⟨xb, 3, none⟩ = some (.int .i64 (-S0)) ∧ w'.cell? ⟨xb, 4, none⟩ = some (.int .i64 (-S1)) ∧ w'.cell? ⟨xb, 5, none⟩ = some (.int .i64 (-S2))) from ⟨(X12.out.keep hw).cell 0, (X12.out.keep hw).cell 1, (X12.out.keep hw).cell 2, (X12.out.keep hw).cell 3, (X12.out.keep hw).cell 4, (X12.out.keep hw).cell 5⟩)
  have lx12 := X12.out.lt
  go_cut [10] (fun s10 wx => ∃ (g cg : Nat), s10 = .slice (some ⟨g, 0, none⟩) (l.length + 1) cg ∧ PlAt wx (some ⟨g, 0, none⟩) (l ++ [⟨t0, t1, t2, -S0, -S1, -S2⟩]) ∧ Below w12.heap.size w12 wx)
  case first =>
    go_region_held3 (fun w' => (w'.cell? ⟨xb, 0, none⟩ = some (.int .i64 t0) ∧ w'.cell? ⟨xb, 1, none⟩ = some (.int .i64 t1) ∧ w'.cell? ⟨xb, 2, none⟩ = some (.int .i64 t2) ∧ w'.cell? ⟨xb, 3, none⟩ = some (.int .i64 (-S0)) ∧ w'.cell? ⟨xb, 4, none⟩ = some (.int .i64 (-S1)) ∧ w'.cell? ⟨xb, 5, none⟩ = some (.int .i64 (-S2))))
      ((refine K.out _ ?_; (repeat' (first | (with_reducible exact Below.refl _ _) | (with_reducible assumption) | (with_reducible refine Below.drew ?_) | (with_reducible refine below_drewN ?_ _) | (with_reducible refine Below.setCell ?_ ?_ _) | (with_reducible refine Below.alloc ?_ ?_ _) | go_size | omega)); done))
      (first | (go_at_call 11; refine (CO.out _ (HP.out.keep (below_via B12 (by (repeat' (first | (with_reducible exact Below.refl _ _) | (with_reducible assumption) | (with_reducible refine Below.drew ?_) | (with_reducible refine below_drewN ?_ _) | (with_reducible refine Below.setCell ?_ ?_ _) | (with_reducible refine Below.alloc ?_ ?_ _) | go_size | omega)))))).mono ?_; rintro e w15 ⟨⟨v15, rfl, ho15⟩, h15⟩; (first | (with_reducible have NB := Lib.hid (Box.keep (n1 w12 #[.int .i64 t0, .int .i64 t1, .int .i64 t2, .int .i64 (-S0), .int .i64 (-S1), .int .i64 (-S2)] 27) h15)) | (with_reducible have NB := Lib.hid (Box.keep (n1d w12 #[.int .i64 t0, .int .i64 t1, .int .i64 t2, .int .i64 (-S0), .int .i64 (-S1), .int .i64 (-S2)] 27) h15)) | skip); have hB15 : Below w12.heap.size w12 w15 := below_via (by (repeat' (first | (with_reducible exact Below.refl _ _) | (with_reducible assumption) | (with_reducible refine Below.drew ?_) | (with_reducible refine below_drewN ?_ _) | (with_reducible refine Below.setCell ?_ ?_ _) | (with_reducible refine Below.alloc ?_ ?_ _) | go_size | omega))) h15; have hz15 := hB15.size; have HO15 := Lib.hid (owns_base (b' := w12.heap.size) ho15 (by first | exact Nat.le_refl _ | simp)); clear h15 ho15; obtain ⟨k0, k1, k2, k3, k4, k5⟩ := K.out w15 hB15) | ((refine step_append_lies _ (by rfl) _ _ 22 (by rfl) w12.heap.size 27 i0 _ 6 48 Try.underlying22 hi0 hz0 hz1 hz2 rfl (by omega) _ l.length (plc l) (by rfl) HO15.out ⟨w12.heap.size, 0, none⟩ 1 1 [.int .i64 t0, .int .i64 t1, .int .i64 t2, .int .i64 (-S0), .int .i64 (-S1), .int .i64 (-S2)] (by rfl) rfl (World.news_of_block NB.out) (by simp [Value.oneCell']) (by omega) (by unfold maxLen; omega) (by omega) (by omega) _ rfl ?_; intro g16 cg16 w16 hown16 hgrow16 hat16 hlt16; have hB16 : Below w12.heap.size w12 w16 := Below.grown hB15 hgrow16 (by omega) (fun j e => (HO15.out.lt _ e).1); clear hgrow16 hat16)) | ((refine step_append_lies _ (by rfl) _ _ 22 (by rfl) w12.heap.size 27 i0 _ 6 48 Try.underlying22 hi0 hz0 hz1 hz2 rfl (by omega) _ l.length (plc l) (by rfl) (HO15.out.alloc _) ⟨w15.heap.size, 0, none⟩ 1 1 [.int .i64 t0, .int .i64 t1, .int .i64 t2, .int .i64 (-S0), .int .i64 (-S1), .int .i64 (-S2)] (by rfl) rfl (World.news_of_block (heap_alloc_new w15 _)) (by simp [Value.oneCell']) (by omega) (by unfold maxLen; omega) (by omega) (by simp; omega) _ rfl ?_; intro g16 cg16 w16 hown16 hgrow16 hat16 hlt16; have hB16 : Below w12.heap.size w12 w16 := Below.grown (by (repeat' (first | (with_reducible exact Below.refl _ _) | (with_reducible assumption) | (with_reducible refine Below.drew ?_) | (with_reducible refine below_drewN ?_ _) | (with_reducible refine Below.setCell ?_ ?_ _) | (with_reducible refine Below.alloc ?_ ?_ _) | go_size | omega))) hgrow16 (by simp; omega) (fun j e => (HO15.out.lt _ e).1); clear hgrow16 hat16)))
    all_goals
      go_wp2_with fail
      go_meet
      refine ⟨g16, cg16, rfl, plAt_own (b := w12.heap.size) (cap := cg16) ?_, by (repeat' (first | (with_reducible exact Below.refl _ _) | (with_reducible assumption) | (with_reducible refine Below.drew ?_) | (with_reducible refine below_drewN ?_ _) | (with_reducible refine Below.setCell ?_ ?_ _) | (with_reducible refine Below.alloc ?_ ?_ _) | go_size | omega))⟩
      rw [List.length_append, plc_append]
      exact hown16
  obtain ⟨g, cg, rfl, hq, hcB⟩ := hcut
  obtain ⟨w14, rfl⟩ : ∃ x : World, x = wc := ⟨_, rfl⟩
  have B14 : Below w.heap.size w w14 := below_via B12 hcB
  have M14 := Lib.hid (M12.out.keep hcB); have Z14 := Lib.hid (Z12.out.keep hcB); have HQ14 := Lib.hid hq
  have z14 := hcB.size
  clear hcB hq K X12 M12 Z12 lx12 CO
  go_wp2_with fail
  refine (RC.out _ _ _ HQ14.out).mono ?_
  rintro e w15 ⟨rfl, h⟩
  have B15 : Below w.heap.size w w15 := below_via B14 h
  have M15 := Lib.hid (M14.out.keep h); have Z15 := Lib.hid (Z14.out.keep h); have HQ15 := Lib.hid (HQ14.out.keep h)
  have z15 := h.size
  clear h RC M14 Z14 HQ14
  by_cases hD : D2 = 0
  · have CSv := CSu hD; have CBv := CBa hD
    clear CSu CBa
    subst hD
    go_wp2_with fail
    refine (CSv.out _ _ _ HQ15.out).mono ?_
    rintro e w16 ⟨rfl, h⟩
    have B16 : Below w.heap.size w w16 := below_via B15 h
    have M16 := Lib.hid (M15.out.keep h); have Z16 := Lib.hid (Z15.out.keep h); have HQ16 := Lib.hid (HQ15.out.keep h)
    have z16 := h.size
    clear h CSv M15 Z15 HQ15
    go_wp2_with fail
    refine (CBv.out _ _ _ (HQ16.out.keep (by (repeat' (first | (with_reducible exact Below.refl _ _) | (with_reducible assumption) | (with_reducible refine Below.drew ?_) | (with_reducible refine below_drewN ?_ _) | (with_reducible refine Below.setCell ?_ ?_ _) | (with_reducible refine Below.alloc ?_ ?_ _) | go_size | omega))))).mono ?_
    rintro e w17 ⟨rfl, h⟩
    have S17 := Lib.hid (Box.keep (n1 w16 #[.int .i64 0, .int .i64 0, .int .i64 0] 23) h)
    have B17 : Below w.heap.size w w17 := below_via B16 (below_via (by (repeat' (first | (with_reducible exact Below.refl _ _) | (with_reducible assumption) | (with_reducible refine Below.drew ?_) | (with_reducible refine below_drewN ?_ _) | (with_reducible refine Below.setCell ?_ ?_ _) | (with_reducible refine Below.alloc ?_ ?_ _) | go_size | omega))) h)
    have M17 := Lib.hid ((M16.out.alloc (.cells #[.int .i64 0, .int .i64 0, .int .i64 0] 23)).keep h); have Z17 := Lib.hid ((Z16.out.alloc (.cells #[.int .i64 0, .int .i64 0, .int .i64 0] 23)).keep h)
    have z17 := h.size
    simp at z17
    clear h CBv M16 Z16 HQ16
    generalize w16.heap.size = sb at *
    have EQ0 := fun v => eqArr3 0 0 0 0 0 0 v
    have EQM := fun v => eqArr3 (-M0) (-M1) (-M2) 0 0 0 v
    simp only [beq_self_eq_true, Bool.and_self] at EQ0
    rw [HB.out] at EQM
    obtain ⟨m0, m1, m2, -⟩ := M17.out.three
    obtain ⟨y0, y1, y2, -⟩ := Z17.out.three
    obtain ⟨s0, s1, s2, -⟩ := S17.out.three
    have lm := M17.out.lt; have lz := Z17.out.lt; have ls := S17.out.lt
    go_wp2_with fail
    go_ret
    exact ⟨by simp, B17⟩
  · have hb : (D2 == 0) = false := by simpa using hD
    go_wp2_with fail
    go_ret
    exact ⟨rfl, B15⟩
end Go.Proofs.Ytahfliboanphkaa
