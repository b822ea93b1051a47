/-
  withPower, compareNaturals, cmp.Compare at uint64, greatest: their walks.
-/
import Derived.Test.YtihpkiopeagogaaDoorPow
namespace Go.Proofs.YtihpkiopeagogaaDoor
open Go.RowKit

def PowRel (xs : List Nat) (f : Nat) (e : Nat) (w : World) (vp vg vi : Value) (wr : World) : Prop :=
  ∃ (k g cap gd : Nat) (ys : List Nat), k ≤ e ∧ vi = .int .i64 (k : Int) ∧ vg = .int .u64 (gd : Int) ∧ 1 ≤ gd ∧ gd < 18446744073709551616 ∧
    vp = .slice (some ⟨g, 0, none⟩) ys.length cap ∧ wr.ownsRow w.heap.size 55 1 vp ys.length (ys.map wd) ∧ Nats.Norm ys ∧
    Nats.val ys * gd = Nats.val xs * f ^ k ∧ ys.length ≤ xs.length + k ∧ Below w.heap.size w wr
def PowPost (base : Nat) (n : Nat) (L : Nat) (w : World) (e : Ending) (w' : World) : Prop :=
  ∃ (g cap : Nat) (ys : List Nat), e = .returned (.slice (some ⟨g, 0, none⟩) ys.length cap) ∧ w'.ownsRow base 55 1 (.slice (some ⟨g, 0, none⟩) ys.length cap) ys.length (ys.map wd) ∧
    Nats.Norm ys ∧ Nats.val ys = n ∧ ys.length ≤ L ∧ Below w.heap.size w w'

set_option maxHeartbeats 400000 in
theorem pow_nat (base g cap : Nat) (xs : List Nat) (f e : Nat) (w : World) (hown : w.ownsRow base 55 1 (.slice (some ⟨g, 0, none⟩) xs.length cap) xs.length (xs.map wd))
    (hn : Nats.Norm xs) (hf0 : 1 ≤ f) (hf : f < 18446744073709551616) (he : e ≤ 1073741824) (hlen : xs.length ≤ 1073741824) :
    Calls Tryd.prog 17 #[.slice (some ⟨g, 0, none⟩) xs.length cap, .int .u64 (f : Int), .int .i64 (e : Int)] w (PowPost w.heap.size (Nats.val xs * f ^ e) (xs.length + e + 1) w) := by
  have HN := Lib.hid hn; clear hn
  go_enter Tryd.func17, Tryd.ntmps17
  go_wp2_with fail
  refine (clone_any base g cap xs w hown (by omega)).mono ?_
  rintro e1 w1 ⟨v1, rfl, hown1, hb1⟩
  obtain ⟨g1, cap1, rfl, hcap, hcap2⟩ := own_shape hown1 HN.out.pos
  have HO := Lib.hid hown1; have HO0 := Lib.hid hown; clear hown1 hown
  go_wp2_with fail
  go_loopw [7, 8, 14] (PowRel xs f e w) (fun _ _ i _ => e - (intOf i).toNat)
  case atStart => exact ⟨0, g1, cap1, 1, xs, Nat.zero_le _, rfl, rfl, by omega, by omega, rfl, HO.out, HN.out, by simp, by omega, hb1⟩
  case round =>
    clear hcap hcap2 hb1
    obtain ⟨k, g2, cap2, gd, ys, hk, rfl, rfl, hg0, hgd, rfl, hoy, hny, hv, hyl, hb⟩ := hrel
    have hgb := own_base hoy
    have HOY := Lib.hid hoy; have HNY := Lib.hid hny; have HV := Lib.hid hv
    clear hoy hny hv
    by_cases hke : k < e
    · go_wp2_with fail
      refine (mul_any gd f hgd hf _).mono ?_
      rintro e2 w2 ⟨⟨hi, lo, h1, h2, h3, rfl⟩, rfl⟩
      have H3 := Lib.hid h3; clear h3
      by_cases hz : hi = 0
      · subst hz
        have hp : 1 ≤ gd * f := Nat.mul_pos hg0 hf0
        have hlo : lo = gd * f := by have := H3.out; omega
        have hlo1 : 1 ≤ lo := by omega
        have HL := Lib.hid hlo; clear hlo hp
        go_wp2_with fail
        go_roundw
        case rel =>
          refine ⟨k + 1, g2, cap2, lo, ys, by omega, by go_num, rfl, hlo1, h2, rfl, HOY.out, HNY.out, ?_, by omega, hb⟩
          rw [HL.out, Nat.pow_succ, ← Nat.mul_assoc, HV.out, Nat.mul_assoc]
        case measure => simp [intOf]; omega
      · have hz' : ((hi : Int) != 0) = true := by simp; omega
        have hbs := hb.size
        go_wp2_with fail
        refine (mult_any w.heap.size g2 cap2 ys gd _ HOY.out HNY.out.lt hgd (by omega) (by omega)).mono ?_
        rintro e3 w3 ⟨v3, rfl, ho3, hb3⟩
        have hln := Nats.mulW_len ys gd
        have hnn := Nats.mulW_norm ys gd HNY.out hg0 hgd
        have hvv := Nats.mulW_val ys gd
        have H4 := Lib.hid hln; have H5 := Lib.hid hnn; have H6 := Lib.hid hvv; have H7 := Lib.hid ho3
        clear hln hnn hvv ho3
        go_wp2_with fail
        go_roundw
        case rel =>
          obtain ⟨g3, cap3, hv3, _⟩ := own_shape H7.out H5.out.pos
          refine ⟨k + 1, g3, cap3, f, Nats.mulW ys gd, by omega, by go_num, rfl, hf0, hf, hv3, H7.out, H5.out, ?_, ?_, hb.trans hb3⟩
          · rw [H6.out, HV.out, Nat.pow_succ, Nat.mul_assoc]
          · have := H4.out.1; omega
        case measure => simp [intOf]; omega
    · obtain rfl : k = e := by omega
      have hbs := hb.size
      go_wp2_with fail
      refine (mult_any w.heap.size g2 cap2 ys gd _ HOY.out HNY.out.lt hgd (by omega) (by omega)).mono ?_
      rintro e3 w3 ⟨v3, rfl, ho3, hb3⟩
      have hln := Nats.mulW_len ys gd
      have hnn := Nats.mulW_norm ys gd HNY.out hg0 hgd
      have hvv := Nats.mulW_val ys gd
      obtain ⟨g3, cap3, rfl, _⟩ := own_shape ho3 hnn.pos
      have H4 := Lib.hid hln; have H5 := Lib.hid hnn; have H6 := Lib.hid hvv; have H7 := Lib.hid ho3
      clear hln hnn hvv ho3
      go_wp2_with fail
      go_ret
      refine ⟨g3, cap3, _, rfl, H7.out, H5.out, by rw [H6.out, HV.out], by have := H4.out.1; omega, hb.trans hb3⟩


def cmpI (x y : Int) : Int := if x < y then -1 else if y < x then 1 else 0
set_option maxHeartbeats 400000 in
theorem cmpU_any (x y : Int) (w : World) :
    Calls Tryd.prog 30 #[.int .u64 x, .int .u64 y] w fun e w' => e = .returned (.int .i64 (cmpI x y)) ∧ w' = w := by
  have hx : (x != x) = false := by simp
  have hy : (y != y) = false := by simp
  go_enter Tryd.func30, Tryd.ntmps30
  go_wp2
  all_goals go_ret
  all_goals refine ⟨ret_int ?_, rfl⟩
  all_goals unfold cmpI
  · rw [if_pos (by assumption)]
  · rw [if_neg (by omega), if_pos (by assumption)]
  · rw [if_neg (by omega), if_neg (by omega)]

theorem cmpi_any (x y : Int) (w : World) :
    Calls Tryd.prog 29 #[.int .i64 x, .int .i64 y] w fun e w' => e = .returned (.int .i64 (cmpI x y)) ∧ w' = w := by
  refine (Tryd.cmp_Compare_int x y w).mono ?_
  rintro e w' ⟨rfl, rfl⟩
  exact ⟨rfl, rfl⟩

/-- the search by halves -/
def half (P : Int → Bool) (low high : Int) : Int :=
  if low < high then
    (if P (low + (high - low + 1) / 2) then half P (low + (high - low + 1) / 2) high else half P low (low + (high - low + 1) / 2 - 1))
  else low
termination_by (high - low).toNat
decreasing_by all_goals omega

def GreatRel (P : Int → Bool) (low high : Int) (w : World) (a b : Value) (wr : World) : Prop :=
  ∃ l h : Int, low ≤ l ∧ h ≤ high ∧ l ≤ h ∧ a = .int .i64 l ∧ b = .int .i64 h ∧ half P l h = half P low high ∧ Below w.heap.size w wr

set_option maxRecDepth 100000 in
set_option maxHeartbeats 400000 in
theorem greatest_any (K : Nat) (cap : Array Value) (P : Int → Bool) (low high : Int) (w : World) (h0 : -1152921504606846976 ≤ low) (h1 : high ≤ 1152921504606846976) (hlh : low ≤ high)
    (hK : ∀ (args : Array Value) (w : World), (callFunc K args).run Tryd.prog w = .ok (.enter K args) w)
    (H : Hid (∀ (n : Int) (wr : World), low < n → n ≤ high → Below w.heap.size w wr → Calls Tryd.prog K (#[.int .i64 n] ++ cap) wr fun e w' => e = .returned (.bool (P n)) ∧ Below w.heap.size w w')) :
    Calls Tryd.prog 20 #[.int .i64 low, .int .i64 high, .func (.func K) #[] cap] w fun e w' => e = .returned (.int .i64 (half P low high)) ∧ Below w.heap.size w w' := by
  go_enter Tryd.func20, Tryd.ntmps20
  go_wp2_with fail
  go_loopw [0, 1] (GreatRel P low high w) (fun a b _ => (intOf b - intOf a).toNat)
  case atStart => exact ⟨low, high, by omega, by omega, hlh, rfl, rfl, rfl, Below.refl _ _⟩
  case round =>
    obtain ⟨l, h, hl, hh, hle, rfl, rfl, hf, hb⟩ := hrel
    have HF := Lib.hid hf; clear hf
    by_cases hlt : l < h
    · go_wp2_with fail

      refine (H.out (l + (h - l + 1) / 2) _ (by omega) (by omega) hb).mono ?_
      rintro e w1 ⟨rfl, hb1⟩
      cases hP : P (l + (h - l + 1) / 2)
      · have HP := Lib.hid hP
        go_wp2_with fail
        go_roundw
        case rel =>
          refine ⟨l, l + (h - l + 1) / 2 - 1, hl, by omega, by omega, rfl, rfl, ?_, hb1⟩
          rw [← HF.out]; conv => rhs; rw [half]
          rw [if_pos hlt, HP.out]; rfl
        case measure => simp [intOf]; omega
      · have HP := Lib.hid hP
        go_wp2_with fail
        go_roundw
        case rel =>
          refine ⟨l + (h - l + 1) / 2, h, by omega, hh, by omega, rfl, rfl, ?_, hb1⟩
          rw [← HF.out]; conv => rhs; rw [half]
          rw [if_pos hlt, HP.out]; rfl
        case measure => simp [intOf]; omega
    · go_wp2_with fail
      go_ret
      refine ⟨ret_int ?_, hb⟩
      rw [← HF.out, half, if_neg (by omega)]


theorem run_enter {P : Program} {f : FuncId} {fn : Func} (hf : P.funcs[f]? = some fn) (hname : (fn.name == "runtime.NumGoroutine") = false) (hb : fn.body.isSome = true) (args : Array Value) (w : World) :
    (callFunc f args).run P w = .ok (.enter f args) w := by
  obtain ⟨c, hc⟩ := Option.isSome_iff_exists.1 hb
  have hn : fn.name ≠ "runtime.NumGoroutine" := by simpa using hname
  simp [callFunc, hf, hn, hc, go_sem]
theorem enters21 (args : Array Value) (w : World) : (callFunc 21 args).run Tryd.prog w = .ok (.enter 21 args) w :=
  run_enter Tryd.func21 (by kernel_rfl) (by kernel_rfl) args w
end Go.Proofs.YtihpkiopeagogaaDoor
namespace Go.Proofs.YtihpkiopeagogaaDoor
open Go.RowKit
def CmpRel (a b : List Nat) (w : World) (vi : Value) (wr : World) : Prop :=
  ∃ k : Nat, k ≤ a.length ∧ vi = .int .i64 (k : Int) ∧ a.drop (a.length - k) = b.drop (a.length - k) ∧ Drew w wr
theorem word_cell {w : World} {base g cap : Nat} {xs : List Nat} (h : w.ownsRow base 55 1 (.slice (some ⟨g, 0, none⟩) xs.length cap) xs.length (xs.map wd)) (j : Nat) (hj : j < xs.length) :
    w.cell? ⟨g, j, none⟩ = some (.int .u64 (xs.getD j 0 : Nat)) := by
  have h1 := h.cellAt j (by omega)
  rw [h1, List.getElem?_map, List.getD_eq_getElem?_getD, List.getElem?_eq_getElem hj]; rfl
theorem cmp_swap_eq {a b : List Nat} (h : Nats.val a < Nats.val b) : cmpI (Nats.val a) (Nats.val b) = -1 := by unfold cmpI; rw [if_pos (by omega)]
theorem cmp_swap_gt {a b : List Nat} (h : Nats.val b < Nats.val a) : cmpI (Nats.val a) (Nats.val b) = 1 := by unfold cmpI; rw [if_neg (by omega), if_pos (by omega)]

set_option maxHeartbeats 400000 in
theorem cmpN_any (base g cap base' g' cap' : Nat) (a b : List Nat) (w : World) (ha : w.ownsRow base 55 1 (.slice (some ⟨g, 0, none⟩) a.length cap) a.length (a.map wd))
    (hb : w.ownsRow base' 55 1 (.slice (some ⟨g', 0, none⟩) b.length cap') b.length (b.map wd)) (hna : Nats.Norm a) (hnb : Nats.Norm b) (hla : a.length ≤ 1099511627776) (hlb : b.length ≤ 1099511627776) :
    Calls Tryd.prog 19 #[.slice (some ⟨g, 0, none⟩) a.length cap, .slice (some ⟨g', 0, none⟩) b.length cap'] w fun e w' => e = .returned (.int .i64 (cmpI (Nats.val a) (Nats.val b))) ∧ Drew w w' := by
  have HA := Lib.hid ha; have HB := Lib.hid hb; have HNA := Lib.hid hna; have HNB := Lib.hid hnb
  clear ha hb hna hnb
  by_cases hl : a.length = b.length
  · have HL := Lib.hid hl
    have hne : ((a.length : Int) != (b.length : Int)) = false := by rw [hl]; simp
    clear hl
    go_enter Tryd.func19, Tryd.ntmps19
    go_wp2_with fail
    go_loopw [19] (CmpRel a b w) (fun i _ => a.length - (intOf i).toNat)
    case atStart => exact ⟨0, Nat.zero_le _, rfl, by rw [List.drop_eq_nil_of_le (by omega), List.drop_eq_nil_of_le (by have := HL.out; omega)], Drew.refl _⟩
    case round =>
      clear hne
      obtain ⟨k, hk, rfl, hdr, md, rfl⟩ := hrel
      have HD := Lib.hid hdr; clear hdr
      by_cases hkl : k < a.length
      · have hx := word_cell HA.out (a.length - 1 - k) (by omega)
        have hy := word_cell HB.out (a.length - 1 - k) (by have := HL.out; omega)
        obtain ⟨x, hxx⟩ : ∃ x, a.getD (a.length - 1 - k) 0 = x := ⟨_, rfl⟩
        obtain ⟨y, hyy⟩ : ∃ y, b.getD (a.length - 1 - k) 0 = y := ⟨_, rfl⟩
        rw [hxx] at hx; rw [hyy] at hy
        have HX := Lib.hid hxx; have HY := Lib.hid hyy; clear hxx hyy
        have hlb2 : a.length - 1 - k < b.length := by have := HL.out; omega
        have e1 : a.length - k = a.length - 1 - k + 1 := by omega
        have HE := Lib.hid e1; clear e1
        by_cases hxy : x = y
        · subst hxy
          go_wp2_with fail
          go_quiet (fail)
          go_wp2_with fail
          go_roundw
          case rel =>
            refine ⟨k + 1, by omega, by go_num, ?_, _, rfl⟩
            have h2 := HD.out; rw [HE.out] at h2
            have := Nats.drop_eq_step (by omega) hlb2 h2 (by rw [HX.out, HY.out])
            rwa [show a.length - (k + 1) = a.length - 1 - k from by omega]
          case measure => simp [intOf]; omega
        · have hxy' : ((x : Int) != (y : Int)) = true := by simp; omega
          go_wp2_with fail
          go_quiet (fail)
          go_wp2_with fail
          have ib1 : (k : Int) ≤ (a.length : Int) - 1 := by omega
          have ib3 : (a.length : Int) - 1 - (k : Int) < (b.length : Int) := by omega
          go_quiet ((go_at_call 30; refine (cmpU_any _ _ _).mono ?_; rintro e w9 ⟨rfl, rfl⟩; exact ⟨rfl, _, rfl⟩))
          go_wp2_with fail
          go_ret
          refine ⟨ret_int ?_, (((Drew.refl w).more _).more _).more _⟩
          have h2 := HD.out; rw [HE.out] at h2
          rcases Nat.lt_or_gt_of_ne hxy with h | h
          · rw [cmp_swap_eq (Nats.cmp_at HNA.out.lt (by omega) hlb2 h2 (by rw [HX.out, HY.out]; exact h))]
            unfold cmpI; rw [if_pos (by omega)]
          · rw [cmp_swap_gt (Nats.cmp_at HNB.out.lt hlb2 (by omega) h2.symm (by rw [HX.out, HY.out]; exact h))]
            unfold cmpI; rw [if_neg (by omega), if_pos (by omega)]
      · obtain rfl : k = a.length := by omega
        go_wp2_with fail
        go_ret
        refine ⟨ret_int ?_, ⟨_, rfl⟩⟩
        have h2 := HD.out
        rw [Nat.sub_self, List.drop_zero, List.drop_zero] at h2
        rw [h2]; unfold cmpI; simp
  · have hne : ((a.length : Int) != (b.length : Int)) = true := by simp; omega
    go_enter Tryd.func19, Tryd.ntmps19
    go_wp2_with (go_at_call 29; refine (cmpi_any _ _ _).mono ?_; rintro e w' ⟨rfl, rfl⟩)
    go_ret
    refine ⟨ret_int ?_, Drew.refl _⟩
    rcases Nat.lt_or_gt_of_ne hl with h | h
    · rw [cmp_swap_eq (Nats.cmp_len HNA.out HNB.out h)]; unfold cmpI; rw [if_pos (by omega)]
    · rw [cmp_swap_gt (Nats.cmp_len HNB.out HNA.out h)]; unfold cmpI; rw [if_neg (by omega), if_pos (by omega)]
end Go.Proofs.YtihpkiopeagogaaDoor
