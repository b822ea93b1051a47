/-
  The law PlateBalances.
-/
import Derived.Test.YtahfliboanphkaaBlc
import Derived.Test.YtahfliboanphkaaCpo
import Derived.Test.YtahfliboanphkaaAwk3
import Derived.Deep.RegionWith
import Derived.Deep.DeepCutAuto
import Derived.Deep.DrawnRows
namespace Go.Proofs.Ytahfliboanphkaa
open Go.RowKit
attribute [local go_sem ↓] Go.wp_at_zero Go.wp_at_succ
theorem n1 (w : World) (cs : Array Value) (t : TypeId) : Box (w.alloc (.cells cs t)) w.heap.size cs t := Box.new _ _ _ rfl
theorem n1d (w : World) (cs : Array Value) (t : TypeId) : Box ((w.alloc (.cells cs t)).drew) w.heap.size cs t := Box.new _ _ _ rfl
theorem n2 (w : World) (cs : Array Value) (t : TypeId) (o : Obj) : Box ((w.alloc (.cells cs t)).alloc o) w.heap.size cs t := (n1 w cs t).alloc o
theorem n2d (w : World) (cs : Array Value) (t : TypeId) (o : Obj) : Box (((w.alloc (.cells cs t)).alloc o).drew) w.heap.size cs t := (n1 w cs t).alloc o
theorem n3 (w : World) (cs : Array Value) (t : TypeId) (o : Obj) : Box ((w.alloc o).alloc (.cells cs t)) (w.heap.size + 1) cs t := Box.new _ _ _ (by simp)
theorem n3d (w : World) (cs : Array Value) (t : TypeId) (o : Obj) : Box (((w.alloc o).alloc (.cells cs t)).drew) (w.heap.size + 1) cs t := Box.new (w.alloc o) _ _ (by simp)
theorem others3 {w : World} {b b' : Nat} {cs : Array Value} {t : TypeId} (h : Box w b cs t) (hn : b ≠ b') (u0 u1 u2 : Value) : Box (((w.setCell ⟨b', 0, none⟩ u0).setCell ⟨b', 1, none⟩ u1).setCell ⟨b', 2, none⟩ u2) b cs t := ((h.other _ _ hn).other _ _ hn).other _ _ hn
theorem others6 {w : World} {b b' : Nat} {cs : Array Value} {t : TypeId} (h : Box w b cs t) (hn : b ≠ b') (u0 u1 u2 u3 u4 u5 : Value) : Box ((((((w.setCell ⟨b', 0, none⟩ u0).setCell ⟨b', 1, none⟩ u1).setCell ⟨b', 2, none⟩ u2).setCell ⟨b', 3, none⟩ u3).setCell ⟨b', 4, none⟩ u4).setCell ⟨b', 5, none⟩ u5) b cs t := (((((h.other _ _ hn).other _ _ hn).other _ _ hn).other _ _ hn).other _ _ hn).other _ _ hn
theorem box_ne {w : World} {b b' : Nat} {cs cs' : Array Value} {t t' : TypeId} (h : Box w b cs t) (h' : Box w b' cs' t') (hd : cs.size ≠ cs'.size) : b ≠ b' := by
  intro e; subst e
  unfold Box at h h'
  rw [h] at h'
  injection h' with h'
  injection h' with h'
  exact hd (by rw [h'])
theorem store3 {w : World} {b : Nat} {x0 x1 x2 : Value} {t : TypeId} (h : Box w b #[x0, x1, x2] t) (u0 u1 u2 : Value) : Box (((w.setCell ⟨b, 0, none⟩ u0).setCell ⟨b, 1, none⟩ u1).setCell ⟨b, 2, none⟩ u2) b #[u0, u1, u2] t := ((h.set 0 _).set 1 _).set 2 _
theorem store6 {w : World} {b : Nat} {x0 x1 x2 x3 x4 x5 : Value} {t : TypeId} (h : Box w b #[x0, x1, x2, x3, x4, x5] t) (u0 u1 u2 u3 u4 u5 : Value) : Box ((((((w.setCell ⟨b, 0, none⟩ u0).setCell ⟨b, 1, none⟩ u1).setCell ⟨b, 2, none⟩ u2).setCell ⟨b, 3, none⟩ u3).setCell ⟨b, 4, none⟩ u4).setCell ⟨b, 5, none⟩ u5) b #[u0, u1, u2, u3, u4, u5] t := (((((h.set 0 _).set 1 _).set 2 _).set 3 _).set 4 _).set 5 _
set_option maxRecDepth 100000 in
set_option maxHeartbeats 6400000 in
theorem blc_A (l : List Pf) (a : Option Addr) (cap : Nat) (t0 t1 t2 : Int) (w : World) (hl : l.length ≤ 9223372036854775807) (hp : PlAt w a l) (hf : (decide (l.length ≤ 20) || (decide (300 < l.length) && decide (l.length ≤ 305))) = false) :
    Calls Try.prog 3 #[.slice a l.length cap, vec t0 t1 t2] w fun e w' => e = .returned (.bool true) ∧ Below w.heap.size w w' := by
  have AW := Lib.hid (fun u => awake3_any u)
  have HP := Lib.hid hp; clear hp
  have CF := Lib.hid (fun u => few_any l a cap u hl)
  rw [hf] at CF
  go_enter Try.func3, Try.ntmps3
  go_wp2_with fail
  refine (AW.out _).mono ?_
  rintro e w1 ⟨rfl, h⟩
  have B1 : Below w.heap.size w w1 := below_via (by (repeat' (first | (with_reducible exact Below.refl _ _) | (with_reducible assumption) | (with_reducible refine Below.drew ?_) | (with_reducible refine below_drewN ?_ _) | (with_reducible refine Below.setCell ?_ ?_ _) | (with_reducible refine Below.alloc ?_ ?_ _) | go_size | omega))) h
  have T1 := Lib.hid ((Box.new w #[.int .i64 t0, .int .i64 t1, .int .i64 t2] 23 (n := w.heap.size) rfl).keep h)
  have z1 := B1.size
  clear h AW
  go_wp2_with fail
  refine (CF.out _).mono ?_
  rintro e w2 ⟨rfl, h⟩
  have B2 : Below w.heap.size w w2 := below_via B1 h
  have T2 := Lib.hid (T1.out.keep h)
  have z2 := h.size
  clear h T1 CF hf
  go_wp2_with fail
  go_ret
  exact ⟨rfl, B2⟩
set_option maxRecDepth 100000 in
set_option maxHeartbeats 6400000 in
theorem blc_B (l : List Pf) (a : Option Addr) (cap : Nat) (t0 t1 t2 E : Int) (w : World) (hl : l.length ≤ 9223372036854775807) (hp : PlAt w a l) (hf : (decide (l.length ≤ 20) || (decide (300 < l.length) && decide (l.length ≤ 305))) = true) (hne : E ≠ 0) (h2 : chkP l = E) (iE : IntKind.i64.wrap E = E)
    (CB : Hid (∀ (a : Option Addr) (cap : Nat) (u : World), PlAt u a l → Calls Try.prog 10 #[.slice a l.length cap, vec t0 t1 t2] u fun e w' => e = .returned (.tuple #[pul 0 0 0 0 0 0, vec 0 0 0, .int .i64 E]) ∧ Below u.heap.size u w')) :
    Calls Try.prog 3 #[.slice a l.length cap, vec t0 t1 t2] w fun e w' => e = .returned (.bool true) ∧ Below w.heap.size w w' := by
  have h400 : l.length ≤ 400 := by simp at hf; omega
  have CC := Lib.hid (fun (u : World) (h : PlAt u a l) => copied_any l a cap u h400 h)
  have CK := Lib.hid (fun (u : World) (h : PlAt u a l) => rchkP_any l a cap u hl h)
  have CI := Lib.hid (fun u => risPlace_any t0 t1 t2 u)
  rw [h2] at CK
  clear h2
  have hb : (E == 0) = false := by simpa using hne
  have AW := Lib.hid (fun u => awake3_any u)
  have HP := Lib.hid hp; clear hp
  have CF := Lib.hid (fun u => few_any l a cap u hl)
  rw [hf] at CF
  go_enter Try.func3, Try.ntmps3
  go_wp2_with fail
  refine (AW.out _).mono ?_
  rintro e w1 ⟨rfl, h⟩
  have B1 : Below w.heap.size w w1 := below_via (by (repeat' (first | (with_reducible exact Below.refl _ _) | (with_reducible assumption) | (with_reducible refine Below.drew ?_) | (with_reducible refine below_drewN ?_ _) | (with_reducible refine Below.setCell ?_ ?_ _) | (with_reducible refine Below.alloc ?_ ?_ _) | go_size | omega))) h
  have T1 := Lib.hid ((Box.new w #[.int .i64 t0, .int .i64 t1, .int .i64 t2] 23 (n := w.heap.size) rfl).keep h)
  have z1 := B1.size
  clear h AW
  go_wp2_with fail
  refine (CF.out _).mono ?_
  rintro e w2 ⟨rfl, h⟩
  have B2 : Below w.heap.size w w2 := below_via B1 h
  have T2 := Lib.hid (T1.out.keep h)
  have z2 := h.size
  clear h T1 CF hf
  go_upto_region 5 with fail
  have ltt := T2.out.lt
  go_cut [5, 6, 7] (fun s5 s6 s7 wx => ∃ xb mb : Nat, s5 = .pointer (some ⟨xb, 0, none⟩) ∧ s6 = .pointer (some ⟨mb, 0, none⟩) ∧ s7 = .int .i64 E ∧ Box wx xb #[.int .i64 0, .int .i64 0, .int .i64 0, .int .i64 0, .int .i64 0, .int .i64 0] 27 ∧ Box wx mb #[.int .i64 0, .int .i64 0, .int .i64 0] 23 ∧ Below w2.heap.size w2 wx)
  case first =>
    have K := Lib.hid (fun (w' : World) (hw : Below w2.heap.size w2 w') => show (w'.cell? ⟨w.heap.size, 0, none⟩ = some (.int .i64 t0) ∧ w'.cell? ⟨w.heap.size, 1, none⟩ = some (.int .i64 t1) ∧ w'.cell? ⟨w.heap.size, 2, none⟩ = some (.int .i64 t2)) from ⟨(T2.out.keep hw).cell 0, (T2.out.keep hw).cell 1, (T2.out.keep hw).cell 2⟩)
    go_region_held3 (fun w' => (w'.cell? ⟨w.heap.size, 0, none⟩ = some (.int .i64 t0) ∧ w'.cell? ⟨w.heap.size, 1, none⟩ = some (.int .i64 t1) ∧ w'.cell? ⟨w.heap.size, 2, none⟩ = some (.int .i64 t2)))
      ((refine K.out _ ?_; (repeat' (first | (with_reducible exact Below.refl _ _) | (with_reducible assumption) | (with_reducible refine Below.drew ?_) | (with_reducible refine below_drewN ?_ _) | (with_reducible refine Below.setCell ?_ ?_ _) | (with_reducible refine Below.alloc ?_ ?_ _) | go_size | omega)); done))
      (first | (go_at_call 11; refine (CC.out _ (HP.out.keep (below_via B2 (by (repeat' (first | (with_reducible exact Below.refl _ _) | (with_reducible assumption) | (with_reducible refine Below.drew ?_) | (with_reducible refine below_drewN ?_ _) | (with_reducible refine Below.setCell ?_ ?_ _) | (with_reducible refine Below.alloc ?_ ?_ _) | go_size | omega)))))).mono ?_; rintro e w8 ⟨⟨a8, c8, rfl, hq8⟩, h8⟩; have HQ8 := Lib.hid hq8; (first | (with_reducible have NX := Lib.hid (Box.keep (n1 w2 #[.int .i64 0, .int .i64 0, .int .i64 0, .int .i64 0, .int .i64 0, .int .i64 0] 27) h8)) | (with_reducible have NX := Lib.hid (Box.keep (n1d w2 #[.int .i64 0, .int .i64 0, .int .i64 0, .int .i64 0, .int .i64 0, .int .i64 0] 27) h8)) | (with_reducible have NX := Lib.hid (Box.keep (n2 w2 #[.int .i64 0, .int .i64 0, .int .i64 0, .int .i64 0, .int .i64 0, .int .i64 0] 27 (.cells #[.int .i64 0, .int .i64 0, .int .i64 0] 23)) h8)) | (with_reducible have NX := Lib.hid (Box.keep (n2d w2 #[.int .i64 0, .int .i64 0, .int .i64 0, .int .i64 0, .int .i64 0, .int .i64 0] 27 (.cells #[.int .i64 0, .int .i64 0, .int .i64 0] 23)) h8)) | (with_reducible have NX := Lib.hid (Box.keep (n3 w2 #[.int .i64 0, .int .i64 0, .int .i64 0, .int .i64 0, .int .i64 0, .int .i64 0] 27 (.cells #[.int .i64 0, .int .i64 0, .int .i64 0] 23)) h8)) | (with_reducible have NX := Lib.hid (Box.keep (n3d w2 #[.int .i64 0, .int .i64 0, .int .i64 0, .int .i64 0, .int .i64 0, .int .i64 0] 27 (.cells #[.int .i64 0, .int .i64 0, .int .i64 0] 23)) h8)) | skip); (first | (with_reducible have NM := Lib.hid (Box.keep (n1 w2 #[.int .i64 0, .int .i64 0, .int .i64 0] 23) h8)) | (with_reducible have NM := Lib.hid (Box.keep (n1d w2 #[.int .i64 0, .int .i64 0, .int .i64 0] 23) h8)) | (with_reducible have NM := Lib.hid (Box.keep (n2 w2 #[.int .i64 0, .int .i64 0, .int .i64 0] 23 (.cells #[.int .i64 0, .int .i64 0, .int .i64 0, .int .i64 0, .int .i64 0, .int .i64 0] 27)) h8)) | (with_reducible have NM := Lib.hid (Box.keep (n2d w2 #[.int .i64 0, .int .i64 0, .int .i64 0] 23 (.cells #[.int .i64 0, .int .i64 0, .int .i64 0, .int .i64 0, .int .i64 0, .int .i64 0] 27)) h8)) | (with_reducible have NM := Lib.hid (Box.keep (n3 w2 #[.int .i64 0, .int .i64 0, .int .i64 0] 23 (.cells #[.int .i64 0, .int .i64 0, .int .i64 0, .int .i64 0, .int .i64 0, .int .i64 0] 27)) h8)) | (with_reducible have NM := Lib.hid (Box.keep (n3d w2 #[.int .i64 0, .int .i64 0, .int .i64 0] 23 (.cells #[.int .i64 0, .int .i64 0, .int .i64 0, .int .i64 0, .int .i64 0, .int .i64 0] 27)) h8)) | skip); have hB8 : Below w2.heap.size w2 w8 := below_via (by (repeat' (first | (with_reducible exact Below.refl _ _) | (with_reducible assumption) | (with_reducible refine Below.drew ?_) | (with_reducible refine below_drewN ?_ _) | (with_reducible refine Below.setCell ?_ ?_ _) | (with_reducible refine Below.alloc ?_ ?_ _) | go_size | omega))) h8; clear h8 hq8; have hz8 := hB8.size; obtain ⟨k0, k1, k2⟩ := K.out w8 hB8) | (go_at_call 10; refine (CB.out _ _ _ (HQ8.out.keep (by (repeat' (first | (with_reducible exact Below.refl _ _) | (with_reducible assumption) | (with_reducible refine Below.drew ?_) | (with_reducible refine below_drewN ?_ _) | (with_reducible refine Below.setCell ?_ ?_ _) | (with_reducible refine Below.alloc ?_ ?_ _) | go_size | omega))))).mono ?_; rintro e w9 ⟨rfl, h9⟩; (first | (with_reducible have NX9 := Lib.hid (Box.keep (NX.out) h9)) | (with_reducible have NX9 := Lib.hid (Box.keep (NX.out.alloc (.cells #[.int .i64 0, .int .i64 0, .int .i64 0] 23)) h9)) | (with_reducible have NX9 := Lib.hid (Box.keep (n1 w8 #[.int .i64 0, .int .i64 0, .int .i64 0, .int .i64 0, .int .i64 0, .int .i64 0] 27) h9)) | (with_reducible have NX9 := Lib.hid (Box.keep (n2 w8 #[.int .i64 0, .int .i64 0, .int .i64 0, .int .i64 0, .int .i64 0, .int .i64 0] 27 (.cells #[.int .i64 0, .int .i64 0, .int .i64 0] 23)) h9)) | (with_reducible have NX9 := Lib.hid (Box.keep (n3 w8 #[.int .i64 0, .int .i64 0, .int .i64 0, .int .i64 0, .int .i64 0, .int .i64 0] 27 (.cells #[.int .i64 0, .int .i64 0, .int .i64 0] 23)) h9)) | (with_reducible have NX9 := Lib.hid (Box.keep (Box.drew NX.out) h9)) | (with_reducible have NX9 := Lib.hid (Box.keep (n1d w8 #[.int .i64 0, .int .i64 0, .int .i64 0, .int .i64 0, .int .i64 0, .int .i64 0] 27) h9)) | (with_reducible have NX9 := Lib.hid (Box.keep (n2d w8 #[.int .i64 0, .int .i64 0, .int .i64 0, .int .i64 0, .int .i64 0, .int .i64 0] 27 (.cells #[.int .i64 0, .int .i64 0, .int .i64 0] 23)) h9)) | (with_reducible have NX9 := Lib.hid (Box.keep (n3d w8 #[.int .i64 0, .int .i64 0, .int .i64 0, .int .i64 0, .int .i64 0, .int .i64 0] 27 (.cells #[.int .i64 0, .int .i64 0, .int .i64 0] 23)) h9)) | skip); (first | (with_reducible have NM9 := Lib.hid (Box.keep (NM.out) h9)) | (with_reducible have NM9 := Lib.hid (Box.keep (NM.out.alloc (.cells #[.int .i64 0, .int .i64 0, .int .i64 0, .int .i64 0, .int .i64 0, .int .i64 0] 27)) h9)) | (with_reducible have NM9 := Lib.hid (Box.keep (n1 w8 #[.int .i64 0, .int .i64 0, .int .i64 0] 23) h9)) | (with_reducible have NM9 := Lib.hid (Box.keep (n2 w8 #[.int .i64 0, .int .i64 0, .int .i64 0] 23 (.cells #[.int .i64 0, .int .i64 0, .int .i64 0, .int .i64 0, .int .i64 0, .int .i64 0] 27)) h9)) | (with_reducible have NM9 := Lib.hid (Box.keep (n3 w8 #[.int .i64 0, .int .i64 0, .int .i64 0] 23 (.cells #[.int .i64 0, .int .i64 0, .int .i64 0, .int .i64 0, .int .i64 0, .int .i64 0] 27)) h9)) | (with_reducible have NM9 := Lib.hid (Box.keep (Box.drew NM.out) h9)) | (with_reducible have NM9 := Lib.hid (Box.keep (n1d w8 #[.int .i64 0, .int .i64 0, .int .i64 0] 23) h9)) | (with_reducible have NM9 := Lib.hid (Box.keep (n2d w8 #[.int .i64 0, .int .i64 0, .int .i64 0] 23 (.cells #[.int .i64 0, .int .i64 0, .int .i64 0, .int .i64 0, .int .i64 0, .int .i64 0] 27)) h9)) | (with_reducible have NM9 := Lib.hid (Box.keep (n3d w8 #[.int .i64 0, .int .i64 0, .int .i64 0] 23 (.cells #[.int .i64 0, .int .i64 0, .int .i64 0, .int .i64 0, .int .i64 0, .int .i64 0] 27)) h9)) | skip); have hB9 : Below w2.heap.size w2 w9 := below_via (by (repeat' (first | (with_reducible exact Below.refl _ _) | (with_reducible assumption) | (with_reducible refine Below.drew ?_) | (with_reducible refine below_drewN ?_ _) | (with_reducible refine Below.setCell ?_ ?_ _) | (with_reducible refine Below.alloc ?_ ?_ _) | go_size | omega))) h9; have hz98 := h9.size; clear h9; have hz9 := hB9.size; obtain ⟨k0', k1', k2'⟩ := K.out w9 hB9; (first | (have hne := box_ne NX9.out NM9.out (by simp); have hne' := Ne.symm hne) | skip); (first | (obtain ⟨⟨o0, o1, o2, o3, o4, o5⟩, f0, f1, f2, f3, f4, f5⟩ := box9 NX9.out; have lo := NX9.out.lt) | skip); (first | (obtain ⟨p0, p1, p2, g0, g1, g2⟩ := NM9.out.three; have lp := NM9.out.lt) | skip)))
    all_goals go_wp2_with fail
    all_goals go_meet
    · exact ⟨_, _, rfl, rfl, rfl, n2 _ _ _ _, n3 _ _ _ _, by (repeat' (first | (with_reducible exact Below.refl _ _) | (with_reducible assumption) | (with_reducible refine Below.drew ?_) | (with_reducible refine below_drewN ?_ _) | (with_reducible refine Below.setCell ?_ ?_ _) | (with_reducible refine Below.alloc ?_ ?_ _) | go_size | omega))⟩
    · exact ⟨_, _, rfl, rfl, rfl, n3 _ _ _ _, n2 _ _ _ _, by (repeat' (first | (with_reducible exact Below.refl _ _) | (with_reducible assumption) | (with_reducible refine Below.drew ?_) | (with_reducible refine below_drewN ?_ _) | (with_reducible refine Below.setCell ?_ ?_ _) | (with_reducible refine Below.alloc ?_ ?_ _) | go_size | omega))⟩
    · exact ⟨_, _, rfl, rfl, rfl, (store6 NX9.out _ _ _ _ _ _).alloc _, Box.new _ _ _ (by simp), by (repeat' (first | (with_reducible exact Below.refl _ _) | (with_reducible assumption) | (with_reducible refine Below.drew ?_) | (with_reducible refine below_drewN ?_ _) | (with_reducible refine Below.setCell ?_ ?_ _) | (with_reducible refine Below.alloc ?_ ?_ _) | go_size | omega))⟩
    · exact ⟨_, _, rfl, rfl, rfl, others3 (store6 NX9.out _ _ _ _ _ _) hne _ _ _, store3 (others6 NM9.out hne' _ _ _ _ _ _) _ _ _, by (repeat' (first | (with_reducible exact Below.refl _ _) | (with_reducible assumption) | (with_reducible refine Below.drew ?_) | (with_reducible refine below_drewN ?_ _) | (with_reducible refine Below.setCell ?_ ?_ _) | (with_reducible refine Below.alloc ?_ ?_ _) | go_size | omega))⟩
    · exact ⟨_, _, rfl, rfl, rfl, Box.new _ _ _ (by simp), (store3 NM9.out _ _ _).alloc _, by (repeat' (first | (with_reducible exact Below.refl _ _) | (with_reducible assumption) | (with_reducible refine Below.drew ?_) | (with_reducible refine below_drewN ?_ _) | (with_reducible refine Below.setCell ?_ ?_ _) | (with_reducible refine Below.alloc ?_ ?_ _) | go_size | omega))⟩
    · exact ⟨_, _, rfl, rfl, rfl, others3 (store6 NX9.out _ _ _ _ _ _) hne _ _ _, store3 (others6 NM9.out hne' _ _ _ _ _ _) _ _ _, by (repeat' (first | (with_reducible exact Below.refl _ _) | (with_reducible assumption) | (with_reducible refine Below.drew ?_) | (with_reducible refine below_drewN ?_ _) | (with_reducible refine Below.setCell ?_ ?_ _) | (with_reducible refine Below.alloc ?_ ?_ _) | go_size | omega))⟩
    · exact ⟨_, _, rfl, rfl, rfl, (store6 NX9.out _ _ _ _ _ _).alloc _, Box.new _ _ _ (by simp), by (repeat' (first | (with_reducible exact Below.refl _ _) | (with_reducible assumption) | (with_reducible refine Below.drew ?_) | (with_reducible refine below_drewN ?_ _) | (with_reducible refine Below.setCell ?_ ?_ _) | (with_reducible refine Below.alloc ?_ ?_ _) | go_size | omega))⟩
    · exact ⟨_, _, rfl, rfl, rfl, others3 (store6 NX9.out _ _ _ _ _ _) hne _ _ _, store3 (others6 NM9.out hne' _ _ _ _ _ _) _ _ _, by (repeat' (first | (with_reducible exact Below.refl _ _) | (with_reducible assumption) | (with_reducible refine Below.drew ?_) | (with_reducible refine below_drewN ?_ _) | (with_reducible refine Below.setCell ?_ ?_ _) | (with_reducible refine Below.alloc ?_ ?_ _) | go_size | omega))⟩
    · exact ⟨_, _, rfl, rfl, rfl, others3 (store6 NX9.out _ _ _ _ _ _) hne _ _ _, store3 (others6 NM9.out hne' _ _ _ _ _ _) _ _ _, by (repeat' (first | (with_reducible exact Below.refl _ _) | (with_reducible assumption) | (with_reducible refine Below.drew ?_) | (with_reducible refine below_drewN ?_ _) | (with_reducible refine Below.setCell ?_ ?_ _) | (with_reducible refine Below.alloc ?_ ?_ _) | go_size | omega))⟩
    · exact ⟨_, _, rfl, rfl, rfl, Box.new _ _ _ (by simp), (store3 NM9.out _ _ _).alloc _, by (repeat' (first | (with_reducible exact Below.refl _ _) | (with_reducible assumption) | (with_reducible refine Below.drew ?_) | (with_reducible refine below_drewN ?_ _) | (with_reducible refine Below.setCell ?_ ?_ _) | (with_reducible refine Below.alloc ?_ ?_ _) | go_size | omega))⟩
    · exact ⟨_, _, rfl, rfl, rfl, others3 (store6 NX9.out _ _ _ _ _ _) hne _ _ _, store3 (others6 NM9.out hne' _ _ _ _ _ _) _ _ _, by (repeat' (first | (with_reducible exact Below.refl _ _) | (with_reducible assumption) | (with_reducible refine Below.drew ?_) | (with_reducible refine below_drewN ?_ _) | (with_reducible refine Below.setCell ?_ ?_ _) | (with_reducible refine Below.alloc ?_ ?_ _) | go_size | omega))⟩
    · exact ⟨_, _, rfl, rfl, rfl, others3 (store6 NX9.out _ _ _ _ _ _) hne _ _ _, store3 (others6 NM9.out hne' _ _ _ _ _ _) _ _ _, by (repeat' (first | (with_reducible exact Below.refl _ _) | (with_reducible assumption) | (with_reducible refine Below.drew ?_) | (with_reducible refine below_drewN ?_ _) | (with_reducible refine Below.setCell ?_ ?_ _) | (with_reducible refine Below.alloc ?_ ?_ _) | go_size | omega))⟩
  obtain ⟨xb, mb, rfl, rfl, rfl, hxb, hmb, hcB⟩ := hcut
  obtain ⟨w5, rfl⟩ : ∃ x : World, x = wc := ⟨_, rfl⟩
  have B5 : Below w.heap.size w w5 := below_via B2 hcB
  have T5 := Lib.hid (T2.out.keep hcB); have X5 := Lib.hid hxb; have M5 := Lib.hid hmb
  have z5 := hcB.size
  clear hcB hxb hmb T2 ltt
  go_wp2_with fail
  refine (CK.out _ (HP.out.keep B5)).mono ?_
  rintro e w6 ⟨rfl, h⟩
  have B6 : Below w.heap.size w w6 := below_via B5 h
  have T6 := Lib.hid (T5.out.keep h); have X6 := Lib.hid (X5.out.keep h); have M6 := Lib.hid (M5.out.keep h)
  have z6 := h.size
  clear h T5 X5 M5 CK
  have EQX := fun v => eqPul 0 0 0 0 0 0 0 0 0 0 0 0 v
  have EQM := fun v => eqArr3 0 0 0 0 0 0 v
  simp only [beq_self_eq_true, Bool.and_self] at EQX EQM
  obtain ⟨⟨o0, o1, o2, o3, o4, o5⟩, -⟩ := box9 X6.out
  obtain ⟨p0, p1, p2, -⟩ := M6.out.three
  have lx := X6.out.lt; have lm := M6.out.lt
  go_wp2_with fail
  go_ret
  exact ⟨by simp, B6⟩
set_option maxRecDepth 100000 in
set_option maxHeartbeats 6400000 in
theorem blc_C (l : List Pf) (a : Option Addr) (cap : Nat) (t0 t1 t2 : Int) (w : World) (hl : l.length ≤ 9223372036854775807) (hp : PlAt w a l) (hf : (decide (l.length ≤ 20) || (decide (300 < l.length) && decide (l.length ≤ 305))) = true) (h2 : chkP l = 0) (ht : szB 1000000 t0 t1 t2 = false)
    (CB : Hid (∀ (a : Option Addr) (cap : Nat) (u : World), PlAt u a l → Calls Try.prog 10 #[.slice a l.length cap, vec t0 t1 t2] u fun e w' => e = .returned (.tuple #[pul 0 0 0 0 0 0, vec 0 0 0, .int .i64 2]) ∧ Below u.heap.size u w')) :
    Calls Try.prog 3 #[.slice a l.length cap, vec t0 t1 t2] w fun e w' => e = .returned (.bool true) ∧ Below w.heap.size w w' := by
  have h400 : l.length ≤ 400 := by simp at hf; omega
  have CC := Lib.hid (fun (u : World) (h : PlAt u a l) => copied_any l a cap u h400 h)
  have CK := Lib.hid (fun (u : World) (h : PlAt u a l) => rchkP_any l a cap u hl h)
  have CI := Lib.hid (fun u => risPlace_any t0 t1 t2 u)
  rw [h2] at CK
  rw [ht] at CI
  clear h2 ht
  have AW := Lib.hid (fun u => awake3_any u)
  have HP := Lib.hid hp; clear hp
  have CF := Lib.hid (fun u => few_any l a cap u hl)
  rw [hf] at CF
  go_enter Try.func3, Try.ntmps3
  go_wp2_with fail
  refine (AW.out _).mono ?_
  rintro e w1 ⟨rfl, h⟩
  have B1 : Below w.heap.size w w1 := below_via (by (repeat' (first | (with_reducible exact Below.refl _ _) | (with_reducible assumption) | (with_reducible refine Below.drew ?_) | (with_reducible refine below_drewN ?_ _) | (with_reducible refine Below.setCell ?_ ?_ _) | (with_reducible refine Below.alloc ?_ ?_ _) | go_size | omega))) h
  have T1 := Lib.hid ((Box.new w #[.int .i64 t0, .int .i64 t1, .int .i64 t2] 23 (n := w.heap.size) rfl).keep h)
  have z1 := B1.size
  clear h AW
  go_wp2_with fail
  refine (CF.out _).mono ?_
  rintro e w2 ⟨rfl, h⟩
  have B2 : Below w.heap.size w w2 := below_via B1 h
  have T2 := Lib.hid (T1.out.keep h)
  have z2 := h.size
  clear h T1 CF hf
  go_upto_region 5 with fail
  have ltt := T2.out.lt
  go_cut [5, 6, 7] (fun s5 s6 s7 wx => ∃ xb mb : Nat, s5 = .pointer (some ⟨xb, 0, none⟩) ∧ s6 = .pointer (some ⟨mb, 0, none⟩) ∧ s7 = .int .i64 2 ∧ Box wx xb #[.int .i64 0, .int .i64 0, .int .i64 0, .int .i64 0, .int .i64 0, .int .i64 0] 27 ∧ Box wx mb #[.int .i64 0, .int .i64 0, .int .i64 0] 23 ∧ Below w2.heap.size w2 wx)
  case first =>
    have K := Lib.hid (fun (w' : World) (hw : Below w2.heap.size w2 w') => show (w'.cell? ⟨w.heap.size, 0, none⟩ = some (.int .i64 t0) ∧ w'.cell? ⟨w.heap.size, 1, none⟩ = some (.int .i64 t1) ∧ w'.cell? ⟨w.heap.size, 2, none⟩ = some (.int .i64 t2)) from ⟨(T2.out.keep hw).cell 0, (T2.out.keep hw).cell 1, (T2.out.keep hw).cell 2⟩)
    go_region_held3 (fun w' => (w'.cell? ⟨w.heap.size, 0, none⟩ = some (.int .i64 t0) ∧ w'.cell? ⟨w.heap.size, 1, none⟩ = some (.int .i64 t1) ∧ w'.cell? ⟨w.heap.size, 2, none⟩ = some (.int .i64 t2)))
      ((refine K.out _ ?_; (repeat' (first | (with_reducible exact Below.refl _ _) | (with_reducible assumption) | (with_reducible refine Below.drew ?_) | (with_reducible refine below_drewN ?_ _) | (with_reducible refine Below.setCell ?_ ?_ _) | (with_reducible refine Below.alloc ?_ ?_ _) | go_size | omega)); done))
      (first | (go_at_call 11; refine (CC.out _ (HP.out.keep (below_via B2 (by (repeat' (first | (with_reducible exact Below.refl _ _) | (with_reducible assumption) | (with_reducible refine Below.drew ?_) | (with_reducible refine below_drewN ?_ _) | (with_reducible refine Below.setCell ?_ ?_ _) | (with_reducible refine Below.alloc ?_ ?_ _) | go_size | omega)))))).mono ?_; rintro e w8 ⟨⟨a8, c8, rfl, hq8⟩, h8⟩; have HQ8 := Lib.hid hq8; (first | (with_reducible have NX := Lib.hid (Box.keep (n1 w2 #[.int .i64 0, .int .i64 0, .int .i64 0, .int .i64 0, .int .i64 0, .int .i64 0] 27) h8)) | (with_reducible have NX := Lib.hid (Box.keep (n1d w2 #[.int .i64 0, .int .i64 0, .int .i64 0, .int .i64 0, .int .i64 0, .int .i64 0] 27) h8)) | (with_reducible have NX := Lib.hid (Box.keep (n2 w2 #[.int .i64 0, .int .i64 0, .int .i64 0, .int .i64 0, .int .i64 0, .int .i64 0] 27 (.cells #[.int .i64 0, .int .i64 0, .int .i64 0] 23)) h8)) | (with_reducible have NX := Lib.hid (Box.keep (n2d w2 #[.int .i64 0, .int .i64 0, .int .i64 0, .int .i64 0, .int .i64 0, .int .i64 0] 27 (.cells #[.int .i64 0, .int .i64 0, .int .i64 0] 23)) h8)) | (with_reducible have NX := Lib.hid (Box.keep (n3 w2 #[.int .i64 0, .int .i64 0, .int .i64 0, .int .i64 0, .int .i64 0, .int .i64 0] 27 (.cells #[.int .i64 0, .int .i64 0, .int .i64 0] 23)) h8)) | (with_reducible have NX := Lib.hid (Box.keep (n3d w2 #[.int .i64 0, .int .i64 0, .int .i64 0, .int .i64 0, .int .i64 0, .int .i64 0] 27 (.cells #[.int .i64 0, .int .i64 0, .int .i64 0] 23)) h8)) | skip); (first | (with_reducible have NM := Lib.hid (Box.keep (n1 w2 #[.int .i64 0, .int .i64 0, .int .i64 0] 23) h8)) | (with_reducible have NM := Lib.hid (Box.keep (n1d w2 #[.int .i64 0, .int .i64 0, .int .i64 0] 23) h8)) | (with_reducible have NM := Lib.hid (Box.keep (n2 w2 #[.int .i64 0, .int .i64 0, .int .i64 0] 23 (.cells #[.int .i64 0, .int .i64 0, .int .i64 0, .int .i64 0, .int .i64 0, .int .i64 0] 27)) h8)) | (with_reducible have NM := Lib.hid (Box.keep (n2d w2 #[.int .i64 0, .int .i64 0, .int .i64 0] 23 (.cells #[.int .i64 0, .int .i64 0, .int .i64 0, .int .i64 0, .int .i64 0, .int .i64 0] 27)) h8)) | (with_reducible have NM := Lib.hid (Box.keep (n3 w2 #[.int .i64 0, .int .i64 0, .int .i64 0] 23 (.cells #[.int .i64 0, .int .i64 0, .int .i64 0, .int .i64 0, .int .i64 0, .int .i64 0] 27)) h8)) | (with_reducible have NM := Lib.hid (Box.keep (n3d w2 #[.int .i64 0, .int .i64 0, .int .i64 0] 23 (.cells #[.int .i64 0, .int .i64 0, .int .i64 0, .int .i64 0, .int .i64 0, .int .i64 0] 27)) h8)) | skip); have hB8 : Below w2.heap.size w2 w8 := below_via (by (repeat' (first | (with_reducible exact Below.refl _ _) | (with_reducible assumption) | (with_reducible refine Below.drew ?_) | (with_reducible refine below_drewN ?_ _) | (with_reducible refine Below.setCell ?_ ?_ _) | (with_reducible refine Below.alloc ?_ ?_ _) | go_size | omega))) h8; clear h8 hq8; have hz8 := hB8.size; obtain ⟨k0, k1, k2⟩ := K.out w8 hB8) | (go_at_call 10; refine (CB.out _ _ _ (HQ8.out.keep (by (repeat' (first | (with_reducible exact Below.refl _ _) | (with_reducible assumption) | (with_reducible refine Below.drew ?_) | (with_reducible refine below_drewN ?_ _) | (with_reducible refine Below.setCell ?_ ?_ _) | (with_reducible refine Below.alloc ?_ ?_ _) | go_size | omega))))).mono ?_; rintro e w9 ⟨rfl, h9⟩; (first | (with_reducible have NX9 := Lib.hid (Box.keep (NX.out) h9)) | (with_reducible have NX9 := Lib.hid (Box.keep (NX.out.alloc (.cells #[.int .i64 0, .int .i64 0, .int .i64 0] 23)) h9)) | (with_reducible have NX9 := Lib.hid (Box.keep (n1 w8 #[.int .i64 0, .int .i64 0, .int .i64 0, .int .i64 0, .int .i64 0, .int .i64 0] 27) h9)) | (with_reducible have NX9 := Lib.hid (Box.keep (n2 w8 #[.int .i64 0, .int .i64 0, .int .i64 0, .int .i64 0, .int .i64 0, .int .i64 0] 27 (.cells #[.int .i64 0, .int .i64 0, .int .i64 0] 23)) h9)) | (with_reducible have NX9 := Lib.hid (Box.keep (n3 w8 #[.int .i64 0, .int .i64 0, .int .i64 0, .int .i64 0, .int .i64 0, .int .i64 0] 27 (.cells #[.int .i64 0, .int .i64 0, .int .i64 0] 23)) h9)) | (with_reducible have NX9 := Lib.hid (Box.keep (Box.drew NX.out) h9)) | (with_reducible have NX9 := Lib.hid (Box.keep (n1d w8 #[.int .i64 0, .int .i64 0, .int .i64 0, .int .i64 0, .int .i64 0, .int .i64 0] 27) h9)) | (with_reducible have NX9 := Lib.hid (Box.keep (n2d w8 #[.int .i64 0, .int .i64 0, .int .i64 0, .int .i64 0, .int .i64 0, .int .i64 0] 27 (.cells #[.int .i64 0, .int .i64 0, .int .i64 0] 23)) h9)) | (with_reducible have NX9 := Lib.hid (Box.keep (n3d w8 #[.int .i64 0, .int .i64 0, .int .i64 0, .int .i64 0, .int .i64 0, .int .i64 0] 27 (.cells #[.int .i64 0, .int .i64 0, .int .i64 0] 23)) h9)) | skip); (first | (with_reducible have NM9 := Lib.hid (Box.keep (NM.out) h9)) | (with_reducible have NM9 := Lib.hid (Box.keep (NM.out.alloc (.cells #[.int .i64 0, .int .i64 0, .int .i64 0, .int .i64 0, .int .i64 0, .int .i64 0] 27)) h9)) | (with_reducible have NM9 := Lib.hid (Box.keep (n1 w8 #[.int .i64 0, .int .i64 0, .int .i64 0] 23) h9)) | (with_reducible have NM9 := Lib.hid (Box.keep (n2 w8 #[.int .i64 0, .int .i64 0, .int .i64 0] 23 (.cells #[.int .i64 0, .int .i64 0, .int .i64 0, .int .i64 0, .int .i64 0, .int .i64 0] 27)) h9)) | (with_reducible have NM9 := Lib.hid (Box.keep (n3 w8 #[.int .i64 0, .int .i64 0, .int .i64 0] 23 (.cells #[.int .i64 0, .int .i64 0, .int .i64 0, .int .i64 0, .int .i64 0, .int .i64 0] 27)) h9)) | (with_reducible have NM9 := Lib.hid (Box.keep (Box.drew NM.out) h9)) | (with_reducible have NM9 := Lib.hid (Box.keep (n1d w8 #[.int .i64 0, .int .i64 0, .int .i64 0] 23) h9)) | (with_reducible have NM9 := Lib.hid (Box.keep (n2d w8 #[.int .i64 0, .int .i64 0, .int .i64 0] 23 (.cells #[.int .i64 0, .int .i64 0, .int .i64 0, .int .i64 0, .int .i64 0, .int .i64 0] 27)) h9)) | (with_reducible have NM9 := Lib.hid (Box.keep (n3d w8 #[.int .i64 0, .int .i64 0, .int .i64 0] 23 (.cells #[.int .i64 0, .int .i64 0, .int .i64 0, .int .i64 0, .int .i64 0, .int .i64 0] 27)) h9)) | skip); have hB9 : Below w2.heap.size w2 w9 := below_via (by (repeat' (first | (with_reducible exact Below.refl _ _) | (with_reducible assumption) | (with_reducible refine Below.drew ?_) | (with_reducible refine below_drewN ?_ _) | (with_reducible refine Below.setCell ?_ ?_ _) | (with_reducible refine Below.alloc ?_ ?_ _) | go_size | omega))) h9; have hz98 := h9.size; clear h9; have hz9 := hB9.size; obtain ⟨k0', k1', k2'⟩ := K.out w9 hB9; (first | (have hne := box_ne NX9.out NM9.out (by simp); have hne' := Ne.symm hne) | skip); (first | (obtain ⟨⟨o0, o1, o2, o3, o4, o5⟩, f0, f1, f2, f3, f4, f5⟩ := box9 NX9.out; have lo := NX9.out.lt) | skip); (first | (obtain ⟨p0, p1, p2, g0, g1, g2⟩ := NM9.out.three; have lp := NM9.out.lt) | skip)))
    all_goals go_wp2_with fail
    all_goals go_meet
    · exact ⟨_, _, rfl, rfl, rfl, n2 _ _ _ _, n3 _ _ _ _, by (repeat' (first | (with_reducible exact Below.refl _ _) | (with_reducible assumption) | (with_reducible refine Below.drew ?_) | (with_reducible refine below_drewN ?_ _) | (with_reducible refine Below.setCell ?_ ?_ _) | (with_reducible refine Below.alloc ?_ ?_ _) | go_size | omega))⟩
    · exact ⟨_, _, rfl, rfl, rfl, n3 _ _ _ _, n2 _ _ _ _, by (repeat' (first | (with_reducible exact Below.refl _ _) | (with_reducible assumption) | (with_reducible refine Below.drew ?_) | (with_reducible refine below_drewN ?_ _) | (with_reducible refine Below.setCell ?_ ?_ _) | (with_reducible refine Below.alloc ?_ ?_ _) | go_size | omega))⟩
    · exact ⟨_, _, rfl, rfl, rfl, (store6 NX9.out _ _ _ _ _ _).alloc _, Box.new _ _ _ (by simp), by (repeat' (first | (with_reducible exact Below.refl _ _) | (with_reducible assumption) | (with_reducible refine Below.drew ?_) | (with_reducible refine below_drewN ?_ _) | (with_reducible refine Below.setCell ?_ ?_ _) | (with_reducible refine Below.alloc ?_ ?_ _) | go_size | omega))⟩
    · exact ⟨_, _, rfl, rfl, rfl, others3 (store6 NX9.out _ _ _ _ _ _) hne _ _ _, store3 (others6 NM9.out hne' _ _ _ _ _ _) _ _ _, by (repeat' (first | (with_reducible exact Below.refl _ _) | (with_reducible assumption) | (with_reducible refine Below.drew ?_) | (with_reducible refine below_drewN ?_ _) | (with_reducible refine Below.setCell ?_ ?_ _) | (with_reducible refine Below.alloc ?_ ?_ _) | go_size | omega))⟩
    · exact ⟨_, _, rfl, rfl, rfl, Box.new _ _ _ (by simp), (store3 NM9.out _ _ _).alloc _, by (repeat' (first | (with_reducible exact Below.refl _ _) | (with_reducible assumption) | (with_reducible refine Below.drew ?_) | (with_reducible refine below_drewN ?_ _) | (with_reducible refine Below.setCell ?_ ?_ _) | (with_reducible refine Below.alloc ?_ ?_ _) | go_size | omega))⟩
    · exact ⟨_, _, rfl, rfl, rfl, others3 (store6 NX9.out _ _ _ _ _ _) hne _ _ _, store3 (others6 NM9.out hne' _ _ _ _ _ _) _ _ _, by (repeat' (first | (with_reducible exact Below.refl _ _) | (with_reducible assumption) | (with_reducible refine Below.drew ?_) | (with_reducible refine below_drewN ?_ _) | (with_reducible refine Below.setCell ?_ ?_ _) | (with_reducible refine Below.alloc ?_ ?_ _) | go_size | omega))⟩
    · exact ⟨_, _, rfl, rfl, rfl, (store6 NX9.out _ _ _ _ _ _).alloc _, Box.new _ _ _ (by simp), by (repeat' (first | (with_reducible exact Below.refl _ _) | (with_reducible assumption) | (with_reducible refine Below.drew ?_) | (with_reducible refine below_drewN ?_ _) | (with_reducible refine Below.setCell ?_ ?_ _) | (with_reducible refine Below.alloc ?_ ?_ _) | go_size | omega))⟩
    · exact ⟨_, _, rfl, rfl, rfl, others3 (store6 NX9.out _ _ _ _ _ _) hne _ _ _, store3 (others6 NM9.out hne' _ _ _ _ _ _) _ _ _, by (repeat' (first | (with_reducible exact Below.refl _ _) | (with_reducible assumption) | (with_reducible refine Below.drew ?_) | (with_reducible refine below_drewN ?_ _) | (with_reducible refine Below.setCell ?_ ?_ _) | (with_reducible refine Below.alloc ?_ ?_ _) | go_size | omega))⟩
    · exact ⟨_, _, rfl, rfl, rfl, others3 (store6 NX9.out _ _ _ _ _ _) hne _ _ _, store3 (others6 NM9.out hne' _ _ _ _ _ _) _ _ _, by (repeat' (first | (with_reducible exact Below.refl _ _) | (with_reducible assumption) | (with_reducible refine Below.drew ?_) | (with_reducible refine below_drewN ?_ _) | (with_reducible refine Below.setCell ?_ ?_ _) | (with_reducible refine Below.alloc ?_ ?_ _) | go_size | omega))⟩
    · exact ⟨_, _, rfl, rfl, rfl, Box.new _ _ _ (by simp), (store3 NM9.out _ _ _).alloc _, by (repeat' (first | (with_reducible exact Below.refl _ _) | (with_reducible assumption) | (with_reducible refine Below.drew ?_) | (with_reducible refine below_drewN ?_ _) | (with_reducible refine Below.setCell ?_ ?_ _) | (with_reducible refine Below.alloc ?_ ?_ _) | go_size | omega))⟩
    · exact ⟨_, _, rfl, rfl, rfl, others3 (store6 NX9.out _ _ _ _ _ _) hne _ _ _, store3 (others6 NM9.out hne' _ _ _ _ _ _) _ _ _, by (repeat' (first | (with_reducible exact Below.refl _ _) | (with_reducible assumption) | (with_reducible refine Below.drew ?_) | (with_reducible refine below_drewN ?_ _) | (with_reducible refine Below.setCell ?_ ?_ _) | (with_reducible refine Below.alloc ?_ ?_ _) | go_size | omega))⟩
    · exact ⟨_, _, rfl, rfl, rfl, others3 (store6 NX9.out _ _ _ _ _ _) hne _ _ _, store3 (others6 NM9.out hne' _ _ _ _ _ _) _ _ _, by (repeat' (first | (with_reducible exact Below.refl _ _) | (with_reducible assumption) | (with_reducible refine Below.drew ?_) | (with_reducible refine below_drewN ?_ _) | (with_reducible refine Below.setCell ?_ ?_ _) | (with_reducible refine Below.alloc ?_ ?_ _) | go_size | omega))⟩
  obtain ⟨xb, mb, rfl, rfl, rfl, hxb, hmb, hcB⟩ := hcut
  obtain ⟨w5, rfl⟩ : ∃ x : World, x = wc := ⟨_, rfl⟩
  have B5 : Below w.heap.size w w5 := below_via B2 hcB
  have T5 := Lib.hid (T2.out.keep hcB); have X5 := Lib.hid hxb; have M5 := Lib.hid hmb
  have z5 := hcB.size
  clear hcB hxb hmb T2 ltt
  go_wp2_with fail
  refine (CK.out _ (HP.out.keep B5)).mono ?_
  rintro e w6 ⟨rfl, h⟩
  have B6 : Below w.heap.size w w6 := below_via B5 h
  have T6 := Lib.hid (T5.out.keep h); have X6 := Lib.hid (X5.out.keep h); have M6 := Lib.hid (M5.out.keep h)
  have z6 := h.size
  clear h T5 X5 M5 CK
  obtain ⟨t0', t1', t2', -⟩ := T6.out.three
  have ltt := T6.out.lt
  go_wp2_with fail
  clear t0' t1' t2' ltt
  refine (CI.out _).mono ?_
  rintro e w7 ⟨rfl, h⟩
  have B7 : Below w.heap.size w w7 := below_via B6 h
  have X7 := Lib.hid (X6.out.keep h); have M7 := Lib.hid (M6.out.keep h)
  clear h T6 X6 M6 CI
  have EQX := fun v => eqPul 0 0 0 0 0 0 0 0 0 0 0 0 v
  have EQM := fun v => eqArr3 0 0 0 0 0 0 v
  simp only [beq_self_eq_true, Bool.and_self] at EQX EQM
  obtain ⟨⟨o0, o1, o2, o3, o4, o5⟩, -⟩ := box9 X7.out
  obtain ⟨p0, p1, p2, -⟩ := M7.out.three
  have lx := X7.out.lt; have lm := M7.out.lt
  go_wp2_with fail
  go_ret
  exact ⟨by simp, B7⟩
end Go.Proofs.Ytahfliboanphkaa
