/-
  The error of a test: temper.pureInterval and temper.CheckTest. Condition: the table of primes holds what its initialiser lays.
-/
import Derived.Test.YtnjlifmjjihahaaDoorCor
import Derived.Test.YtnjlifmjjihahaaDoorWhn
import Derived.Test.YtnjlifmjjihahaaDoorSut
import Derived.StillTailTactics
import Derived.Deep.RegionHeld3
import Derived.Deep.DrawnRows
namespace Go.Proofs.YtnjlifmjjihahaaDoor
open Go.RowKit
attribute [local go_sem ↓] Go.wp_at_zero Go.wp_at_succ
def erV (lo hi p q : Int) : Int := orV [rgE lo 0 87, rgE hi 0 87, rgE p 1 16, rgE q 1 16]
/-- the error of a test -/
def ctE (lo hi p q : Int) : Int := if erV lo hi p q = 0 then (if hi ≤ lo then 9 else if smo p && smo q then 0 else 15) else erV lo hi p q
theorem rgE_zero {n lo hi : Int} (h : rgE n lo hi = 0) : lo ≤ n ∧ n ≤ hi := by
  unfold rgE inR at h
  by_cases c : lo ≤ n ∧ n ≤ hi
  · exact c
  · rw [decide_eq_false c] at h; simp at h
theorem rgE_cases (n lo hi : Int) : rgE n lo hi = 0 ∨ rgE n lo hi = 2 := by unfold rgE; split <;> simp
theorem erV_zero {lo hi p q : Int} (h : erV lo hi p q = 0) : (0 ≤ lo ∧ lo ≤ 87) ∧ (0 ≤ hi ∧ hi ≤ 87) ∧ (1 ≤ p ∧ p ≤ 16) ∧ (1 ≤ q ∧ q ≤ 16) := by
  unfold erV at h
  simp only [orV] at h
  have h1 : rgE lo 0 87 = 0 := by rcases rgE_cases lo 0 87 with e | e <;> rw [e] at h <;> simp_all
  rw [h1] at h; simp only [if_true] at h
  have h2 : rgE hi 0 87 = 0 := by rcases rgE_cases hi 0 87 with e | e <;> rw [e] at h <;> simp_all
  rw [h2] at h; simp only [if_true] at h
  have h3 : rgE p 1 16 = 0 := by rcases rgE_cases p 1 16 with e | e <;> rw [e] at h <;> simp_all
  rw [h3] at h; simp only [if_true] at h
  have h4 : rgE q 1 16 = 0 := by rcases rgE_cases q 1 16 with e | e <;> rw [e] at h <;> simp_all
  exact ⟨rgE_zero h1, rgE_zero h2, rgE_zero h3, rgE_zero h4⟩
theorem TrmAt.two {w : World} {b : Nat} {a0 a1 a2 a3 a4 a5 : Int} {t : TypeId} (h : Box w b #[.int .i64 a0, .int .i64 a1, .int .i64 a2, .int .i64 a3, .int .i64 a4, .int .i64 a5] t) : TrmAt w b 2 := fun j hj => by
  obtain rfl | rfl : j = 0 ∨ j = 1 := by omega
  · exact ⟨a0, a1, a2, h.cell 0, h.cell 1, h.cell 2⟩
  · exact ⟨a3, a4, a5, h.cell 3, h.cell 4, h.cell 5⟩
def PiR (lo hi p q : Int) (w : World) (e : Ending) (w' : World) : Prop := ∃ x y z : Int, e = .returned (.tuple #[.agg #[.int .i64 x, .int .i64 y, .int .i64 z], .int .i64 (ctE lo hi p q)]) ∧ Below w.heap.size w w'
set_option maxRecDepth 100000 in
set_option maxHeartbeats 3200000 in
theorem pi_ex (lo hi p q : Int) (w : World) (hp : PrimesT w) : Calls Tryd.prog 124 #[.agg #[.int .i64 lo, .int .i64 hi, .int .i64 p, .int .i64 q]] w (PiR lo hi p q w) := by
  have HP := Lib.hid hp; clear hp
  have CN := Lib.hid (fun v => tnoteErr_any lo v); have CM := Lib.hid (fun v => tnoteErr_any hi v); have CP := Lib.hid (fun v => partErr_any p v); have CQ := Lib.hid (fun v => partErr_any q v)
  have CO := Lib.hid (fun v b (h : RowAt v b [rgE lo 0 87, rgE hi 0 87, rgE p 1 16, rgE q 1 16]) => (show Calls Tryd.prog 70 #[.slice (some ⟨b, 0, none⟩) 4 4] v fun e w' => e = .returned (.int .i64 (erV lo hi p q)) ∧ w' = v from or_any b 4 [rgE lo 0 87, rgE hi 0 87, rgE p 1 16, rgE q 1 16] v (by simp) h))
  have HE := Lib.hid (show ∃ x, erV lo hi p q = x from ⟨_, rfl⟩)
  obtain ⟨e0, he0⟩ := HE.out
  rw [he0] at CO
  have HE0 := Lib.hid he0; clear he0 HE
  go_enter Tryd.func124, Tryd.ntmps124
  go_wp2_with fail
  have D := Lib.hid ((Box.new w #[.int .i64 lo, .int .i64 hi, .int .i64 p, .int .i64 q] 134 (n := w.heap.size) rfl).alloc (.cells #[.int .i64 0, .int .i64 0, .int .i64 0] 179))
  have R := Lib.hid (Box.new (w.alloc (.cells #[.int .i64 lo, .int .i64 hi, .int .i64 p, .int .i64 q] 134)) #[.int .i64 0, .int .i64 0, .int .i64 0] 179 (n := w.heap.size + 1) (by simp))
  have BU : Below w.heap.size w ((w.alloc (.cells #[.int .i64 lo, .int .i64 hi, .int .i64 p, .int .i64 q] 134)).alloc (.cells #[.int .i64 0, .int .i64 0, .int .i64 0] 179)) := by (repeat' (first | (with_reducible exact Below.refl _ _) | (with_reducible assumption) | (with_reducible refine Below.drew ?_) | (with_reducible refine below_drewN ?_ _) | (with_reducible refine Below.setCell ?_ ?_ _) | (with_reducible refine Below.alloc ?_ ?_ _) | go_size | omega))
  generalize ((w.alloc (.cells #[.int .i64 lo, .int .i64 hi, .int .i64 p, .int .i64 q] 134)).alloc (.cells #[.int .i64 0, .int .i64 0, .int .i64 0] 179)) = u at *
  have k0 := D.out.cell 0; have k1 := D.out.cell 1; have k2 := D.out.cell 2; have k3 := D.out.cell 3
  have ld := D.out.lt; have lr := R.out.lt
  simp at k0 k1 k2 k3
  go_still_tail 14, (by kernel_rfl)
  repeat still_step
  still_call (CN.out _)
  repeat still_step
  still_call (CM.out _)
  repeat still_step
  still_call (CP.out _)
  repeat still_step
  still_call (CQ.out _)
  repeat still_step
  refine wpStill_nil ?_
  clear CN CM CP CQ
  go_wp2_with fail
  refine (CO.out ((u.alloc (.cells #[.int .i64 (rgE lo 0 87), .int .i64 (rgE hi 0 87), .int .i64 (rgE p 1 16), .int .i64 (rgE q 1 16)] 23)).drew) u.heap.size (RowAt.of_box (Box.new u _ 23 (n := u.heap.size) rfl).drew)).mono ?_
  rintro e w' ⟨rfl, rfl⟩
  have D2 := Lib.hid (D.out.alloc (.cells #[.int .i64 (rgE lo 0 87), .int .i64 (rgE hi 0 87), .int .i64 (rgE p 1 16), .int .i64 (rgE q 1 16)] 23)).drew
  have R2 := Lib.hid (R.out.alloc (.cells #[.int .i64 (rgE lo 0 87), .int .i64 (rgE hi 0 87), .int .i64 (rgE p 1 16), .int .i64 (rgE q 1 16)] 23)).drew
  have B2 : Below w.heap.size w ((u.alloc (.cells #[.int .i64 (rgE lo 0 87), .int .i64 (rgE hi 0 87), .int .i64 (rgE p 1 16), .int .i64 (rgE q 1 16)] 23)).drew) := by (repeat' (first | (with_reducible exact Below.refl _ _) | (with_reducible assumption) | (with_reducible refine Below.drew ?_) | (with_reducible refine below_drewN ?_ _) | (with_reducible refine Below.setCell ?_ ?_ _) | (with_reducible refine Below.alloc ?_ ?_ _) | go_size | omega))
  clear k0 k1 k2 k3 ld lr D R
  generalize ((u.alloc (.cells #[.int .i64 (rgE lo 0 87), .int .i64 (rgE hi 0 87), .int .i64 (rgE p 1 16), .int .i64 (rgE q 1 16)] 23)).drew) = v at *
  clear CO BU
  have k0 := D2.out.cell 0; have k1 := D2.out.cell 1; have k2 := D2.out.cell 2; have k3 := D2.out.cell 3
  have ld := D2.out.lt; have lr := R2.out.lt
  simp at k0 k1 k2 k3
  have r0 := R2.out.free 0; have r1 := R2.out.free 1; have r2 := R2.out.free 2
  obtain ⟨g0, g1, g2, -⟩ := R2.out.three
  by_cases he : e0 = 0
  · subst he
    obtain ⟨⟨a1, a2⟩, ⟨a3, a4⟩, ⟨a5, a6⟩, ⟨a7, a8⟩⟩ := erV_zero HE0.out
    by_cases hlh : hi ≤ lo
    · have HC := Lib.hid (show ctE lo hi p q = 9 by unfold ctE; rw [if_pos HE0.out, if_pos hlh])
      go_wp2_with fail
      have RV : Box (((v.setCell ⟨w.heap.size + 1, 0, none⟩ (.int .i64 0)).setCell ⟨w.heap.size + 1, 1, none⟩ (.int .i64 0)).setCell ⟨w.heap.size + 1, 2, none⟩ (.int .i64 0)) (w.heap.size + 1) #[.int .i64 0, .int .i64 0, .int .i64 0] 179 := ((R2.out.set 0 _).set 1 _).set 2 _
      have BV : Below w.heap.size w (((v.setCell ⟨w.heap.size + 1, 0, none⟩ (.int .i64 0)).setCell ⟨w.heap.size + 1, 1, none⟩ (.int .i64 0)).setCell ⟨w.heap.size + 1, 2, none⟩ (.int .i64 0)) := by (repeat' (first | (with_reducible exact Below.refl _ _) | (with_reducible assumption) | (with_reducible refine Below.drew ?_) | (with_reducible refine below_drewN ?_ _) | (with_reducible refine Below.setCell ?_ ?_ _) | (with_reducible refine Below.alloc ?_ ?_ _) | go_size | omega))
      generalize (((v.setCell ⟨w.heap.size + 1, 0, none⟩ (.int .i64 0)).setCell ⟨w.heap.size + 1, 1, none⟩ (.int .i64 0)).setCell ⟨w.heap.size + 1, 2, none⟩ (.int .i64 0)) = q at *
      have s0 := RV.cell 0; have s1 := RV.cell 1; have s2 := RV.cell 2
      simp at s0 s1 s2
      refine bodyPost_ret (v := .tuple #[.agg #[.int .i64 0, .int .i64 0, .int .i64 0], .int .i64 9]) (by simp [results, Tryd.results124, go_sem, s0, s1, s2]) rfl ⟨0, 0, 0, by rw [HC.out], BV⟩
    · have CWP := Lib.hid (fun v h => wn_any p v h a5 a6); have CWQ := Lib.hid (fun v h => wn_any q v h a7 a8)
      have HPV := Lib.hid (HP.out.keep B2)
      clear a1 a2 a3 a4 a5 a6 a7 a8
      cases hsp : smo p
      all_goals
        unfold WnR at CWP
        rw [hsp] at CWP
        have HSP := Lib.hid hsp; clear hsp
        cases hsq : smo q
        all_goals
          unfold WnR at CWQ
          rw [hsq] at CWQ
          have HSQ := Lib.hid hsq; clear hsq
          have HC := Lib.hid (show ctE lo hi p q = if smo p && smo q then 0 else 15 by unfold ctE; rw [if_pos HE0.out, if_neg hlh])
          rw [HSP.out, HSQ.out] at HC
          have HL := Lib.hid hlh
          go_wp2_with fail
          refine (CWP.out _ HPV.out).mono ?_
          rintro e w3 ⟨x1, x2, x3, rfl, h3⟩
          have D3 := Lib.hid ((D2.out.keep h3).alloc (.cells #[.int .i64 x1, .int .i64 x2, .int .i64 x3] 179))
          have R3 := Lib.hid ((R2.out.keep h3).alloc (.cells #[.int .i64 x1, .int .i64 x2, .int .i64 x3] 179))
          have P3 := Lib.hid (Box.new w3 #[.int .i64 x1, .int .i64 x2, .int .i64 x3] 179 (n := w3.heap.size) rfl)
          have HP3 := Lib.hid ((HPV.out.keep h3).keep ((Below.refl _ w3).alloc (Nat.le_refl _) (.cells #[.int .i64 x1, .int .i64 x2, .int .i64 x3] 179)))
          have B3 : Below w.heap.size w w3 := below_via B2 h3
          have z3 := B3.size
          have B4 : Below w.heap.size w (w3.alloc (.cells #[.int .i64 x1, .int .i64 x2, .int .i64 x3] 179)) := by (repeat' (first | (with_reducible exact Below.refl _ _) | (with_reducible assumption) | (with_reducible refine Below.drew ?_) | (with_reducible refine below_drewN ?_ _) | (with_reducible refine Below.setCell ?_ ?_ _) | (with_reducible refine Below.alloc ?_ ?_ _) | go_size | omega))
          have zz := h3.size
          clear h3 CWP HPV k0 k1 k2 k3 g0 g1 g2 r0 r1 r2
          have k3 := (D3.out).cell 3
          simp at k3
          have ld3 := D3.out.lt
          go_wp2_with fail
          refine (CWQ.out _ HP3.out).mono ?_
          rintro e w5 ⟨y1, y2, y3, rfl, h5⟩
          have P5 := Lib.hid (P3.out.keep h5)
          have R5 := Lib.hid (R3.out.keep h5)
          have B5 : Below w.heap.size w w5 := below_via B4 h5
          have z5 := B5.size
          have zz5 := h5.size
          simp at zz5
          clear CWQ HP3 HP D3
          obtain ⟨g0, g1, g2, r0, r1, r2⟩ := R5.out.three
          have l6 := R5.out.lt
          have lp6 := P5.out.lt
      · clear h5
        go_wp2_with fail
        have RV : Box ((((w5.setCell ⟨w.heap.size + 1, 0, none⟩ (.int .i64 0)).setCell ⟨w.heap.size + 1, 1, none⟩ (.int .i64 0)).setCell ⟨w.heap.size + 1, 2, none⟩ (.int .i64 0)).alloc (.cells #[.int .i64 y1, .int .i64 y2, .int .i64 y3] 179)) (w.heap.size + 1) #[.int .i64 0, .int .i64 0, .int .i64 0] 179 := (((R5.out.set 0 _).set 1 _).set 2 _).alloc _
        have BV : Below w.heap.size w ((((w5.setCell ⟨w.heap.size + 1, 0, none⟩ (.int .i64 0)).setCell ⟨w.heap.size + 1, 1, none⟩ (.int .i64 0)).setCell ⟨w.heap.size + 1, 2, none⟩ (.int .i64 0)).alloc (.cells #[.int .i64 y1, .int .i64 y2, .int .i64 y3] 179)) := by (repeat' (first | (with_reducible exact Below.refl _ _) | (with_reducible assumption) | (with_reducible refine Below.drew ?_) | (with_reducible refine below_drewN ?_ _) | (with_reducible refine Below.setCell ?_ ?_ _) | (with_reducible refine Below.alloc ?_ ?_ _) | go_size | omega))
        generalize ((((w5.setCell ⟨w.heap.size + 1, 0, none⟩ (.int .i64 0)).setCell ⟨w.heap.size + 1, 1, none⟩ (.int .i64 0)).setCell ⟨w.heap.size + 1, 2, none⟩ (.int .i64 0)).alloc (.cells #[.int .i64 y1, .int .i64 y2, .int .i64 y3] 179)) = q6 at *
        have s0 := RV.cell 0; have s1 := RV.cell 1; have s2 := RV.cell 2
        simp at s0 s1 s2
        refine bodyPost_ret (v := .tuple #[.agg #[.int .i64 0, .int .i64 0, .int .i64 0], .int .i64 15]) (by simp [results, Tryd.results124, go_sem, s0, s1, s2]) rfl ⟨0, 0, 0, by rw [HC.out]; rfl, BV⟩
      · clear h5
        go_wp2_with fail
        have RV : Box ((((w5.setCell ⟨w.heap.size + 1, 0, none⟩ (.int .i64 0)).setCell ⟨w.heap.size + 1, 1, none⟩ (.int .i64 0)).setCell ⟨w.heap.size + 1, 2, none⟩ (.int .i64 0)).alloc (.cells #[.int .i64 y1, .int .i64 y2, .int .i64 y3] 179)) (w.heap.size + 1) #[.int .i64 0, .int .i64 0, .int .i64 0] 179 := (((R5.out.set 0 _).set 1 _).set 2 _).alloc _
        have BV : Below w.heap.size w ((((w5.setCell ⟨w.heap.size + 1, 0, none⟩ (.int .i64 0)).setCell ⟨w.heap.size + 1, 1, none⟩ (.int .i64 0)).setCell ⟨w.heap.size + 1, 2, none⟩ (.int .i64 0)).alloc (.cells #[.int .i64 y1, .int .i64 y2, .int .i64 y3] 179)) := by (repeat' (first | (with_reducible exact Below.refl _ _) | (with_reducible assumption) | (with_reducible refine Below.drew ?_) | (with_reducible refine below_drewN ?_ _) | (with_reducible refine Below.setCell ?_ ?_ _) | (with_reducible refine Below.alloc ?_ ?_ _) | go_size | omega))
        generalize ((((w5.setCell ⟨w.heap.size + 1, 0, none⟩ (.int .i64 0)).setCell ⟨w.heap.size + 1, 1, none⟩ (.int .i64 0)).setCell ⟨w.heap.size + 1, 2, none⟩ (.int .i64 0)).alloc (.cells #[.int .i64 y1, .int .i64 y2, .int .i64 y3] 179)) = q6 at *
        have s0 := RV.cell 0; have s1 := RV.cell 1; have s2 := RV.cell 2
        simp at s0 s1 s2
        refine bodyPost_ret (v := .tuple #[.agg #[.int .i64 0, .int .i64 0, .int .i64 0], .int .i64 15]) (by simp [results, Tryd.results124, go_sem, s0, s1, s2]) rfl ⟨0, 0, 0, by rw [HC.out]; rfl, BV⟩
      · clear h5
        go_wp2_with fail
        have RV : Box ((((w5.setCell ⟨w.heap.size + 1, 0, none⟩ (.int .i64 0)).setCell ⟨w.heap.size + 1, 1, none⟩ (.int .i64 0)).setCell ⟨w.heap.size + 1, 2, none⟩ (.int .i64 0)).alloc (.cells #[.int .i64 y1, .int .i64 y2, .int .i64 y3] 179)) (w.heap.size + 1) #[.int .i64 0, .int .i64 0, .int .i64 0] 179 := (((R5.out.set 0 _).set 1 _).set 2 _).alloc _
        have BV : Below w.heap.size w ((((w5.setCell ⟨w.heap.size + 1, 0, none⟩ (.int .i64 0)).setCell ⟨w.heap.size + 1, 1, none⟩ (.int .i64 0)).setCell ⟨w.heap.size + 1, 2, none⟩ (.int .i64 0)).alloc (.cells #[.int .i64 y1, .int .i64 y2, .int .i64 y3] 179)) := by (repeat' (first | (with_reducible exact Below.refl _ _) | (with_reducible assumption) | (with_reducible refine Below.drew ?_) | (with_reducible refine below_drewN ?_ _) | (with_reducible refine Below.setCell ?_ ?_ _) | (with_reducible refine Below.alloc ?_ ?_ _) | go_size | omega))
        generalize ((((w5.setCell ⟨w.heap.size + 1, 0, none⟩ (.int .i64 0)).setCell ⟨w.heap.size + 1, 1, none⟩ (.int .i64 0)).setCell ⟨w.heap.size + 1, 2, none⟩ (.int .i64 0)).alloc (.cells #[.int .i64 y1, .int .i64 y2, .int .i64 y3] 179)) = q6 at *
        have s0 := RV.cell 0; have s1 := RV.cell 1; have s2 := RV.cell 2
        simp at s0 s1 s2
        refine bodyPost_ret (v := .tuple #[.agg #[.int .i64 0, .int .i64 0, .int .i64 0], .int .i64 15]) (by simp [results, Tryd.results124, go_sem, s0, s1, s2]) rfl ⟨0, 0, 0, by rw [HC.out]; rfl, BV⟩
      · clear h5
        go_wp2_with fail
        have P6 := Lib.hid (P5.out.alloc (.cells #[.int .i64 y1, .int .i64 y2, .int .i64 y3] 179))
        have R6 := Lib.hid (R5.out.alloc (.cells #[.int .i64 y1, .int .i64 y2, .int .i64 y3] 179))
        have Q6 := Lib.hid (Box.new w5 #[.int .i64 y1, .int .i64 y2, .int .i64 y3] 179 (n := w5.heap.size) rfl)
        have B6 : Below w.heap.size w (w5.alloc (.cells #[.int .i64 y1, .int .i64 y2, .int .i64 y3] 179)) := by (repeat' (first | (with_reducible exact Below.refl _ _) | (with_reducible assumption) | (with_reducible refine Below.drew ?_) | (with_reducible refine below_drewN ?_ _) | (with_reducible refine Below.setCell ?_ ?_ _) | (with_reducible refine Below.alloc ?_ ?_ _) | go_size | omega))
        clear g0 g1 g2 r0 r1 r2 P5 R5 B5
        generalize hx3 : w3.heap.size = b3 at *
        generalize hx5 : w5.heap.size = b5 at *
        generalize (w5.alloc (.cells #[.int .i64 y1, .int .i64 y2, .int .i64 y3] 179)) = t6 at *
        have lp := P6.out.lt; have lq := Q6.out.lt; have lr := R6.out.lt
        obtain ⟨p0, p1, p2, -⟩ := P6.out.three
        obtain ⟨q0, q1, q2, -⟩ := Q6.out.three
        clear hx3 hx5 l6 lp6
        go_region_with (first
          | (go_at_call 131; refine (times_ex y1 y2 y3 (-1) _).mono ?_; rintro e w9 ⟨m1, m2, m3, rfl, h9⟩; have hB9 : Below t6.heap.size t6 w9 := (by first | exact h9 | exact below_via (by (repeat' (first | (with_reducible exact Below.refl _ _) | (with_reducible assumption) | (with_reducible refine Below.drew ?_) | (with_reducible refine below_drewN ?_ _) | (with_reducible refine Below.setCell ?_ ?_ _) | (with_reducible refine Below.alloc ?_ ?_ _) | go_size | omega))) h9); clear h9; obtain ⟨p0, p1, p2, -⟩ := (P6.out.keep hB9).three; have z9 := hB9.size; have R9 := Lib.hid (R6.out.keep hB9))
          | (go_at_call 130; refine (sum_ex _ 2 2 _ (by simp) (by omega) (TrmAt.two (Box.new w9 #[.int .i64 x1, .int .i64 x2, .int .i64 x3, .int .i64 m1, .int .i64 m2, .int .i64 m3] 179 (n := w9.heap.size) rfl))).mono ?_; rintro e w10 ⟨n1, n2, n3, rfl, h10⟩; have hB10 : Below t6.heap.size t6 w10 := below_via (by (repeat' (first | (with_reducible exact Below.refl _ _) | (with_reducible assumption) | (with_reducible refine Below.drew ?_) | (with_reducible refine below_drewN ?_ _) | (with_reducible refine Below.setCell ?_ ?_ _) | (with_reducible refine Below.alloc ?_ ?_ _) | go_size | omega))) h10; have R10 := Lib.hid (R6.out.keep hB10); obtain ⟨g0, g1, g2, r0, r1, r2⟩ := R10.out.three; have l10 := R10.out.lt))
        all_goals
          go_wp2_with fail
          have BV10 := below_via B6 hB10
          have RV : Box (((w10.setCell ⟨w.heap.size + 1, 0, none⟩ (.int .i64 n1)).setCell ⟨w.heap.size + 1, 1, none⟩ (.int .i64 n2)).setCell ⟨w.heap.size + 1, 2, none⟩ (.int .i64 n3)) (w.heap.size + 1) #[.int .i64 n1, .int .i64 n2, .int .i64 n3] 179 := (((R10.out.set 0 _).set 1 _).set 2 _)
          have BV : Below w.heap.size w (((w10.setCell ⟨w.heap.size + 1, 0, none⟩ (.int .i64 n1)).setCell ⟨w.heap.size + 1, 1, none⟩ (.int .i64 n2)).setCell ⟨w.heap.size + 1, 2, none⟩ (.int .i64 n3)) := by (repeat' (first | (with_reducible exact Below.refl _ _) | (with_reducible assumption) | (with_reducible refine Below.drew ?_) | (with_reducible refine below_drewN ?_ _) | (with_reducible refine Below.setCell ?_ ?_ _) | (with_reducible refine Below.alloc ?_ ?_ _) | go_size | omega))
          generalize (((w10.setCell ⟨w.heap.size + 1, 0, none⟩ (.int .i64 n1)).setCell ⟨w.heap.size + 1, 1, none⟩ (.int .i64 n2)).setCell ⟨w.heap.size + 1, 2, none⟩ (.int .i64 n3)) = q6 at *
          have s0 := RV.cell 0; have s1 := RV.cell 1; have s2 := RV.cell 2
          simp at s0 s1 s2
          refine bodyPost_ret (v := .tuple #[.agg #[.int .i64 n1, .int .i64 n2, .int .i64 n3], .int .i64 0]) (by simp [results, Tryd.results124, go_sem, s0, s1, s2]) rfl ⟨n1, n2, n3, by rw [HC.out]; rfl, BV⟩
  · have he' : (e0 != 0) = true := by simpa using he
    have HC := Lib.hid (show ctE lo hi p q = e0 by unfold ctE; rw [if_neg (by rw [HE0.out]; exact he), HE0.out])
    have HN := Lib.hid he; clear he
    go_wp2_with fail
    have RV : Box (((v.setCell ⟨w.heap.size + 1, 0, none⟩ (.int .i64 0)).setCell ⟨w.heap.size + 1, 1, none⟩ (.int .i64 0)).setCell ⟨w.heap.size + 1, 2, none⟩ (.int .i64 0)) (w.heap.size + 1) #[.int .i64 0, .int .i64 0, .int .i64 0] 179 := ((R2.out.set 0 _).set 1 _).set 2 _
    have BV : Below w.heap.size w (((v.setCell ⟨w.heap.size + 1, 0, none⟩ (.int .i64 0)).setCell ⟨w.heap.size + 1, 1, none⟩ (.int .i64 0)).setCell ⟨w.heap.size + 1, 2, none⟩ (.int .i64 0)) := by (repeat' (first | (with_reducible exact Below.refl _ _) | (with_reducible assumption) | (with_reducible refine Below.drew ?_) | (with_reducible refine below_drewN ?_ _) | (with_reducible refine Below.setCell ?_ ?_ _) | (with_reducible refine Below.alloc ?_ ?_ _) | go_size | omega))
    generalize (((v.setCell ⟨w.heap.size + 1, 0, none⟩ (.int .i64 0)).setCell ⟨w.heap.size + 1, 1, none⟩ (.int .i64 0)).setCell ⟨w.heap.size + 1, 2, none⟩ (.int .i64 0)) = q at *
    have s0 := RV.cell 0; have s1 := RV.cell 1; have s2 := RV.cell 2
    simp at s0 s1 s2
    refine bodyPost_ret (v := .tuple #[.agg #[.int .i64 0, .int .i64 0, .int .i64 0], .int .i64 e0]) (by simp [results, Tryd.results124, go_sem, s0, s1, s2]) rfl ⟨0, 0, 0, by rw [HC.out], BV⟩
set_option maxHeartbeats 800000 in
theorem checkTest_any (lo hi p q : Int) (w : World) (hp : PrimesT w) : Calls Tryd.prog 118 #[.agg #[.int .i64 lo, .int .i64 hi, .int .i64 p, .int .i64 q]] w fun e w' => e = .returned (.int .i64 (ctE lo hi p q)) ∧ Below w.heap.size w w' := by
  have HP := Lib.hid (hp.keep ((Below.refl _ w).alloc (Nat.le_refl _) (.cells #[.int .i64 lo, .int .i64 hi, .int .i64 p, .int .i64 q] 134))); clear hp
  go_enter Tryd.func118, Tryd.ntmps118
  go_wp2_with fail
  refine (pi_ex lo hi p q _ HP.out).mono ?_
  rintro e w2 ⟨x, y, z, rfl, h2⟩
  have B2 : Below w.heap.size w w2 := below_via (by (repeat' (first | (with_reducible exact Below.refl _ _) | (with_reducible assumption) | (with_reducible refine Below.drew ?_) | (with_reducible refine below_drewN ?_ _) | (with_reducible refine Below.setCell ?_ ?_ _) | (with_reducible refine Below.alloc ?_ ?_ _) | go_size | omega))) h2
  have z2 := B2.size
  clear h2
  go_wp2_with fail
  go_ret
  exact ⟨rfl, by (repeat' (first | (with_reducible exact Below.refl _ _) | (with_reducible assumption) | (with_reducible refine Below.drew ?_) | (with_reducible refine below_drewN ?_ _) | (with_reducible refine Below.setCell ?_ ?_ _) | (with_reducible refine Below.alloc ?_ ?_ _) | go_size | omega))⟩
end Go.Proofs.YtnjlifmjjihahaaDoor
