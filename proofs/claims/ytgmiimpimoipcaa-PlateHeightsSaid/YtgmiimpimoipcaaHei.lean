/-
  Heights: LeastHeight, its reference, and the law PlateHeights.
-/
import Derived.Test.YtgmiimpimoipcaaAwk3
import Derived.Test.YtgmiimpimoipcaaRbe
import Derived.Deep.LoopGhost
namespace Go.Proofs.Ytgmiimpimoipcaa
open Go.RowKit
/-- the height is enough -/
def enough (f bk ah bh t wn h : Int) : Bool := decide (wn * (ah * bh) ≤ t * stN f h bk ah bh)
theorem stN_step (f h bk ah bh : Int) : stN f (h + 1) bk ah bh = stN f h bk ah bh + bh + ah := by
  unfold stN
  have e1 : (h + 1 - f) * bh = (h - f) * bh + bh := by rw [show h + 1 - f = (h - f) + 1 by omega, Int.add_mul, Int.one_mul]
  have e2 : (h + 1 - bk) * ah = (h - bk) * ah + ah := by rw [show h + 1 - bk = (h - bk) + 1 by omega, Int.add_mul, Int.one_mul]
  rw [e1, e2]; omega
theorem stN_mono {f bk ah bh : Int} (ha : 0 ≤ ah) (hb : 0 ≤ bh) : ∀ (n : Nat) (h : Int), stN f h bk ah bh ≤ stN f (h + n) bk ah bh
  | 0, h => by rw [show h + (0 : Nat) = h by simp]; exact Int.le_refl _
  | n + 1, h => by
    have ih := stN_mono (f := f) (bk := bk) ha hb n h
    rw [show h + ((n + 1 : Nat) : Int) = (h + n) + 1 by push_cast; omega, stN_step]; omega
theorem enough_mono {f bk ah bh t wn a b : Int} (ht : 0 ≤ t) (ha : 0 ≤ ah) (hb : 0 ≤ bh) (hab : a ≤ b) (h : enough f bk ah bh t wn a = true) : enough f bk ah bh t wn b = true := by
  unfold enough at *
  simp only [decide_eq_true_eq] at *
  have h1 := stN_mono (f := f) (bk := bk) ha hb (b - a).toNat a
  rw [show a + ((b - a).toNat : Int) = b by omega] at h1
  exact Int.le_trans h (Int.mul_le_mul_of_nonneg_left h1 ht)
theorem bs_spec (P : Int → Bool) (lo hi : Int) (h : lo ≤ hi) (hm : ∀ a b, lo ≤ a → a ≤ b → b < hi → P a = true → P b = true) :
    (bs P lo hi = hi ∨ P (bs P lo hi) = true) ∧ ∀ n, lo ≤ n → n < bs P lo hi → P n = false := by
  rw [bs]
  by_cases hlt : lo < hi
  · rw [if_pos hlt]
    have hd := bs_bd P lo ((lo + hi) / 2) (by omega)
    have hd2 := bs_bd P ((lo + hi) / 2 + 1) hi (by omega)
    cases hp : P ((lo + hi) / 2)
    · simp only [Bool.false_eq_true, if_false]
      have ih := bs_spec P ((lo + hi) / 2 + 1) hi (by omega) (fun a b h1 h2 h3 h4 => hm a b (by omega) h2 h3 h4)
      refine ⟨ih.1, fun n h1 h2 => ?_⟩
      by_cases hn : n ≤ (lo + hi) / 2
      · cases hpn : P n
        · rfl
        · have := hm n _ h1 hn (by omega) hpn
          rw [hp] at this; cases this
      · exact ih.2 n (by omega) h2
    · simp only [if_true]
      have ih := bs_spec P lo ((lo + hi) / 2) (by omega) (fun a b h1 h2 h3 h4 => hm a b (by omega) h2 (by omega) h4)
      refine ⟨.inr ?_, ih.2⟩
      rcases ih.1 with h1 | h1
      · rw [h1]; exact hp
      · exact h1
  · rw [if_neg hlt]
    exact ⟨.inl (by omega), fun n h1 h2 => by omega⟩
termination_by (hi - lo).toNat
decreasing_by all_goals omega
theorem bs_eq (P : Int → Bool) (lo hi k : Int) (h0 : lo ≤ k) (h1 : k ≤ hi) (hm : ∀ a b, lo ≤ a → a ≤ b → b < hi → P a = true → P b = true) (hk : k = hi ∨ P k = true) (hn : ∀ n, lo ≤ n → n < k → P n = false) : bs P lo hi = k := by
  have hs := bs_spec P lo hi (by omega) hm
  have hb := bs_bd P lo hi (by omega)
  rcases Int.lt_trichotomy (bs P lo hi) k with h | h | h
  · have h2 := hn _ hb.1 h
    rcases hs.1 with h3 | h3
    · omega
    · rw [h2] at h3; cases h3
  · exact h
  · have h2 := hs.2 k h0 h
    rcases hk with h3 | h3
    · omega
    · rw [h2] at h3; cases h3
def lhP (f bk ah bh t wn : Int) (x : Int) : Bool := enough f bk ah bh t wn (x - 10000)
def lhE (f br bk ah bh t wn : Int) : Int := if okB f br bk ah bh then (if inR t 0 10000000 && inB wn 10000000 then (if bs (lhP f bk ah bh t wn) 0 20001 = 20001 then 12 else 0) else 2) else 2
def lhV (f br bk ah bh t wn : Int) : Int := if lhE f br bk ah bh t wn = 0 then bs (lhP f bk ah bh t wn) 0 20001 - 10000 else 0
theorem okB_h {f br bk ah bh : Int} (h : okB f br bk ah bh = true) {x : Int} (h0 : -10000 ≤ x) (h1 : x ≤ 10000) : okB f x bk ah bh = true := by
  unfold okB inB inR at h ⊢; simp at h ⊢; omega
theorem big_bd {t wn N D : Int} (t0 : 0 ≤ t) (t1 : t ≤ 10000000) (w0 : -10000000 ≤ wn) (w1 : wn ≤ 10000000) (n0 : -12000000000 ≤ N) (n1 : N ≤ 12000000000) (d0 : 1 ≤ D) (d1 : D ≤ 90000000000) :
    (-120000000000000000 ≤ t * N ∧ t * N ≤ 120000000000000000) ∧ (-900000000000000000 ≤ wn * D ∧ wn * D ≤ 900000000000000000) := by
  have a := mul_bd (show -10000000 ≤ t by omega) t1 n0 n1
  have b := mul_bd w0 w1 (show -90000000000 ≤ D by omega) d1
  omega
set_option maxRecDepth 100000 in
set_option maxHeartbeats 1600000 in
theorem lhC_any (b c1 c2 : Nat) (f br bk ah bh t wn x : Int) (w : World) (hok : okB f br bk ah bh = true) (hb : Box w b #[.int .i64 f, .int .i64 br, .int .i64 bk, .int .i64 ah, .int .i64 bh] 61) (h1 : w.cell? ⟨c1, 0, none⟩ = some (.int .i64 t)) (h2 : w.cell? ⟨c2, 0, none⟩ = some (.int .i64 wn)) (l1 : c1 < w.heap.size) (l2 : c2 < w.heap.size)
    (t0 : 0 ≤ t) (t1 : t ≤ 10000000) (w0 : -10000000 ≤ wn) (w1 : wn ≤ 10000000) (x0 : 0 ≤ x) (x1 : x < 20001) :
    Calls Try.prog 65 #[.int .i64 x, .pointer (some ⟨b, 0, none⟩), .pointer (some ⟨c1, 0, none⟩), .pointer (some ⟨c2, 0, none⟩)] w fun e w' => e = .returned (.bool (lhP f bk ah bh t wn x)) ∧ Below w.heap.size w w' := by
  have hx := okB_h hok (x := x - 10000) (by omega) (by omega)
  obtain ⟨⟨m0, m1⟩, ⟨m2, m3⟩, m4, m5⟩ := stN_bd hx
  have sn : -12000000000 ≤ stN f (x - 10000) bk ah bh ∧ stN f (x - 10000) bk ah bh ≤ 12000000000 := by unfold stN; omega
  have CS := Lib.hid (fun u => steepness_any f (x - 10000) bk ah bh u hx)
  obtain ⟨gx0, ex, dx, rx⟩ := red_back (n := stN f (x - 10000) bk ah bh) m4
  obtain ⟨q0, q1, q2⟩ := red_size (n := stN f (x - 10000) bk ah bh) m4 sn.1 sn.2
  have hP : lhP f bk ah bh t wn x = decide (wn * redD (stN f (x - 10000) bk ah bh) (ah * bh) ≤ t * redN (stN f (x - 10000) bk ah bh) (ah * bh)) := by
    unfold lhP enough
    rw [Bool.eq_iff_iff]
    simp only [decide_eq_true_eq]
    generalize stN f (x - 10000) bk ah bh = N at *
    generalize ah * bh = D at *
    generalize redN N D = n' at *
    generalize redD N D = d' at *
    generalize gcdI N D = g at *
    have e1 : wn * D = g * (wn * d') := by rw [dx, ← Int.mul_assoc, Int.mul_comm wn g, Int.mul_assoc]
    have e2 : t * N = g * (t * n') := by rw [ex, ← Int.mul_assoc, Int.mul_comm t g, Int.mul_assoc]
    rw [e1, e2]
    constructor
    · intro h; exact Int.le_of_mul_le_mul_left h gx0
    · intro h; exact Int.mul_le_mul_of_nonneg_left h (by omega)
  have HP := Lib.hid hP
  clear hP ex dx hx m0 m1 m2 m3
  generalize redN (stN f (x - 10000) bk ah bh) (ah * bh) = N at *
  generalize redD (stN f (x - 10000) bk ah bh) (ah * bh) = D at *
  obtain ⟨⟨p0, p1⟩, p2, p3⟩ := big_bd t0 t1 w0 w1 q0 q1 rx (by omega)
  have HB := Lib.hid hb; have H1 := Lib.hid h1; have H2 := Lib.hid h2
  have c0 := hb.cell 0; have c1' := hb.cell 1; have c2' := hb.cell 2; have c3 := hb.cell 3; have c4 := hb.cell 4
  have lb := hb.lt
  simp at c0 c1' c2' c3 c4
  clear hb h1 h2
  go_enter Try.func65, Try.ntmps65
  go_wp2_with fail
  refine (CS.out _).mono ?_
  rintro e w1' ⟨rfl, h⟩
  have B1 : Below w.heap.size w w1' := below_via (by (repeat' (first | (with_reducible exact Below.refl _ _) | (with_reducible assumption) | (with_reducible refine Below.drew ?_) | (with_reducible refine below_drewN ?_ _) | (with_reducible refine Below.setCell ?_ ?_ _) | (with_reducible refine Below.alloc ?_ ?_ _) | go_size | omega))) h
  have z1 := B1.size
  have k1 := ((bcell B1).1 c1 0 l1).trans H1.out; have k2 := ((bcell B1).1 c2 0 l2).trans H2.out
  have l1' : c1 < w1'.heap.size := by omega
  have l2' : c2 < w1'.heap.size := by omega
  clear h c0 c1' c2' c3 c4 lb CS
  go_wp2_with fail
  go_ret
  exact ⟨ret_bool (by rw [HP.out]), by (repeat' (first | (with_reducible exact Below.refl _ _) | (with_reducible assumption) | (with_reducible refine Below.drew ?_) | (with_reducible refine below_drewN ?_ _) | (with_reducible refine Below.setCell ?_ ?_ _) | (with_reducible refine Below.alloc ?_ ?_ _) | go_size | omega))⟩
theorem enters65 (args : Array Value) (w : World) : (callFunc 65 args).run Try.prog w = .ok (.enter 65 args) w :=
  run_enter Try.func65 (by kernel_rfl) (by kernel_rfl) args w
theorem searchN_any (K : Nat) (cap : Array Value) (P : Int → Bool) (w : World)
    (hK : ∀ (args : Array Value) (w : World), (callFunc K args).run Try.prog w = .ok (.enter K args) w) (n : Int) (hn : n = 20001) (r : Int) (hr : bs P 0 n = r)
    (H : Hid (∀ (x : Int) (wr : World), 0 ≤ x → x < 20001 → Below w.heap.size w wr → Calls Try.prog K (#[.int .i64 x] ++ cap) wr fun e w' => e = .returned (.bool (P x)) ∧ Below w.heap.size w w')) :
    Calls Try.prog 66 #[.int .i64 20001, .func (.func K) #[] cap] w fun e w' => e = .returned (.int .i64 r) ∧ Below w.heap.size w w' := by
  have H' := Lib.hid (fun (x : Int) (wr : World) (h0 : 0 ≤ x) (h1 : x < n) (hb : Below w.heap.size w wr) => H.out x wr h0 (by omega) hb)
  rw [← hr, ← hn]
  exact search_any K cap P n w (by omega) (by omega) hK H'
set_option maxRecDepth 100000 in
set_option maxHeartbeats 1600000 in
theorem leastHeight_any (f br bk ah bh t wn : Int) (w : World) :
    Calls Try.prog 36 #[brg f br bk ah bh, .int .i64 t, .int .i64 wn] w fun e w' => e = .returned (.tuple #[.int .i64 (lhV f br bk ah bh t wn), .int .i64 (lhE f br bk ah bh t wn)]) ∧ Below w.heap.size w w' := by
  have CK := Lib.hid (fun u => chkBr_any f br bk ah bh u)
  cases hok : okB f br bk ah bh
  · have F1 := Lib.hid (show lhE f br bk ah bh t wn = 2 by unfold lhE; rw [hok]; rfl)
    have F2 := Lib.hid (show lhV f br bk ah bh t wn = 0 by unfold lhV; rw [F1.out]; rfl)
    rw [show chkBr f br bk ah bh = 2 by unfold chkBr; rw [hok]; rfl] at CK
    clear hok
    go_enter Try.func36, Try.ntmps36
    go_wp2_with fail
    refine (CK.out _).mono ?_
    rintro e w1 ⟨rfl, h⟩
    have B1 : Below w.heap.size w w1 := below_via (by (repeat' (first | (with_reducible exact Below.refl _ _) | (with_reducible assumption) | (with_reducible refine Below.drew ?_) | (with_reducible refine below_drewN ?_ _) | (with_reducible refine Below.setCell ?_ ?_ _) | (with_reducible refine Below.alloc ?_ ?_ _) | go_size | omega))) h
    clear h
    go_wp2_with fail
    go_ret2
    exact ⟨by rw [F1.out, F2.out]; rfl, by assumption⟩
  rw [show chkBr f br bk ah bh = 0 by unfold chkBr; rw [hok]; rfl] at CK
  cases hr : (inR t 0 10000000 && inB wn 10000000)
  · have F1 := Lib.hid (show lhE f br bk ah bh t wn = 2 by unfold lhE; rw [hok, hr]; rfl)
    have F2 := Lib.hid (show lhV f br bk ah bh t wn = 0 by unfold lhV; rw [F1.out]; rfl)
    clear hok
    cases h1 : inR t 0 10000000 <;> cases h2 : inB wn 10000000
    all_goals
      first
      | (exfalso; rw [h1, h2] at hr; cases hr; done)
      | skip
    all_goals
      clear hr
      go_enter Try.func36, Try.ntmps36
      go_wp2_with fail
      refine (CK.out _).mono ?_
      rintro e w1 ⟨rfl, h⟩
      have B1 : Below w.heap.size w w1 := below_via (by (repeat' (first | (with_reducible exact Below.refl _ _) | (with_reducible assumption) | (with_reducible refine Below.drew ?_) | (with_reducible refine below_drewN ?_ _) | (with_reducible refine Below.setCell ?_ ?_ _) | (with_reducible refine Below.alloc ?_ ?_ _) | go_size | omega))) h
      have b1 := Lib.hid (((Box.new w #[.int .i64 f, .int .i64 br, .int .i64 bk, .int .i64 ah, .int .i64 bh] 61 rfl).alloc (.cells #[.int .i64 t] 3)).alloc (.cells #[.int .i64 wn] 3) |>.keep h)
      have t1' := Lib.hid ((Box.new (w.alloc (.cells #[.int .i64 f, .int .i64 br, .int .i64 bk, .int .i64 ah, .int .i64 bh] 61)) #[.int .i64 t] 3 (n := w.heap.size + 1) (by simp)).alloc (.cells #[.int .i64 wn] 3) |>.keep h)
      have n1' := Lib.hid ((Box.new ((w.alloc (.cells #[.int .i64 f, .int .i64 br, .int .i64 bk, .int .i64 ah, .int .i64 bh] 61)).alloc (.cells #[.int .i64 t] 3)) #[.int .i64 wn] 3 (n := w.heap.size + 1 + 1) (by simp)).keep h)
      clear h
      have k1 := t1'.out.cell 0; have k2 := n1'.out.cell 0; have l1 := t1'.out.lt; have l2 := n1'.out.lt; have l0 := b1.out.lt
      simp at k1 k2
      go_wp2_with (first | (go_at_call 59; refine (between_any _ _ _ _).mono ?_; rintro e w1 ⟨rfl, rfl⟩) | (go_at_call 62; refine (within_any _ _ _ (by omega) (by omega)).mono ?_; rintro e w1 ⟨rfl, rfl⟩))
      go_ret2
      exact ⟨by rw [F1.out, F2.out]; rfl, by assumption⟩
  · have hr2 := Bool.and_eq_true_iff.1 hr
    obtain ⟨h1, h2⟩ := hr2
    have ht := of_decide_eq_true h1
    have hw := of_decide_eq_true h2
    have bsb := bs_bd (lhP f bk ah bh t wn) 0 20001 (by omega)
    have F0 := Lib.hid (show lhE f br bk ah bh t wn = if bs (lhP f bk ah bh t wn) 0 20001 = 20001 then 12 else 0 by unfold lhE; rw [hok, hr]; rfl)
    have F3 := Lib.hid (show lhV f br bk ah bh t wn = if lhE f br bk ah bh t wn = 0 then bs (lhP f bk ah bh t wn) 0 20001 - 10000 else 0 from rfl)
    clear hr
    have LC := Lib.hid (fun (x : Int) (u : World) (hb : Box u w.heap.size #[.int .i64 f, .int .i64 br, .int .i64 bk, .int .i64 ah, .int .i64 bh] 61) (h1 : u.cell? ⟨w.heap.size + 1, 0, none⟩ = some (.int .i64 t)) (h2 : u.cell? ⟨w.heap.size + 1 + 1, 0, none⟩ = some (.int .i64 wn)) (l1 : w.heap.size + 1 < u.heap.size) (l2 : w.heap.size + 1 + 1 < u.heap.size) (x0 : 0 ≤ x) (x1 : x < 20001) => lhC_any w.heap.size (w.heap.size + 1) (w.heap.size + 1 + 1) f br bk ah bh t wn x u hok hb h1 h2 l1 l2 ht.1 ht.2 hw.1 hw.2 x0 x1)
    clear hok
    generalize hbs : bs (lhP f bk ah bh t wn) 0 20001 = r at *
    have SR := Lib.hid (fun (u : World) (cap : Array Value) => searchN_any 65 cap (lhP f bk ah bh t wn) u enters65 20001 rfl r hbs)
    clear hbs
    by_cases hr : r = 20001
    all_goals
      have HR := Lib.hid hr
      go_enter Try.func36, Try.ntmps36
      go_wp2_with fail
      refine (CK.out _).mono ?_
      rintro e w1 ⟨rfl, h⟩
      have B1 : Below w.heap.size w w1 := below_via (by (repeat' (first | (with_reducible exact Below.refl _ _) | (with_reducible assumption) | (with_reducible refine Below.drew ?_) | (with_reducible refine below_drewN ?_ _) | (with_reducible refine Below.setCell ?_ ?_ _) | (with_reducible refine Below.alloc ?_ ?_ _) | go_size | omega))) h
      have b1 := Lib.hid (((Box.new w #[.int .i64 f, .int .i64 br, .int .i64 bk, .int .i64 ah, .int .i64 bh] 61 rfl).alloc (.cells #[.int .i64 t] 3)).alloc (.cells #[.int .i64 wn] 3) |>.keep h)
      have t1' := Lib.hid ((Box.new (w.alloc (.cells #[.int .i64 f, .int .i64 br, .int .i64 bk, .int .i64 ah, .int .i64 bh] 61)) #[.int .i64 t] 3 (n := w.heap.size + 1) (by simp)).alloc (.cells #[.int .i64 wn] 3) |>.keep h)
      have n1' := Lib.hid ((Box.new ((w.alloc (.cells #[.int .i64 f, .int .i64 br, .int .i64 bk, .int .i64 ah, .int .i64 bh] 61)).alloc (.cells #[.int .i64 t] 3)) #[.int .i64 wn] 3 (n := w.heap.size + 1 + 1) (by simp)).keep h)
      clear h
      have k1 := t1'.out.cell 0; have k2 := n1'.out.cell 0; have l1 := t1'.out.lt; have l2 := n1'.out.lt; have l0 := b1.out.lt
      simp at k1 k2
      go_wp2_with (first | (go_at_call 59; refine (between_any _ _ _ _).mono ?_; rintro e w1 ⟨rfl, rfl⟩) | (go_at_call 62; refine (within_any _ _ _ (by omega) (by omega)).mono ?_; rintro e w1 ⟨rfl, rfl⟩))
      refine (SR.out _ _ ?_).mono ?_
      · refine Lib.hid fun x wr x0 x1 hb => ?_
        have hc := LC.out x wr (b1.out.keep hb) ((t1'.out.keep hb).cell 0) ((n1'.out.keep hb).cell 0) ((t1'.out.keep hb).lt) ((n1'.out.keep hb).lt) x0 x1
        refine hc.mono ?_
        rintro e w' ⟨rfl, hd⟩
        exact ⟨rfl, hb.trans (hd.mono hb.size)⟩
      rintro e w2 ⟨rfl, h⟩
      have B2 : Below w.heap.size w w2 := below_via B1 h
      clear h
      go_wp2_with fail
      go_ret2
      exact ⟨by rw [F3.out, F0.out]; simp [HR.out], by assumption⟩
end Go.Proofs.Ytgmiimpimoipcaa
