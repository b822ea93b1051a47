/-
  The walks of pitches: exponentsOf, CheckPitch, lowest, pitchOf, Normal, sides.
-/
import Derived.Test.YtihpkiopeagogaaDoorPow2
namespace Go.Proofs.YtihpkiopeagogaaDoor
open Go.RowKit


set_option maxHeartbeats 400000 in
theorem expsOf_any (a b c d : Int) (w : World) :
    Calls Tryd.prog 16 #[.agg #[.int .i64 a, .int .i64 b, .int .i64 c, .int .i64 d]] w fun e w' => e = .returned (.agg #[.int .i64 a, .int .i64 b, .int .i64 c]) ∧ Below w.heap.size w w' := by
  go_enter Tryd.func16, Tryd.ntmps16
  go_wp2
  go_returns
  refine ⟨rfl, ?_⟩
  go_grown

def okP (a b c d : Int) : Bool := decide (1 ≤ d ∧ d ≤ 12) && (inB a 400 && (inB b 400 && inB c 400))
def chkP (a b c d : Int) : Int := if okP a b c d then 0 else 2
theorem idx0 (x y z : Value) (w : World) : (Instr.index 52 (.agg #[x, y, z]) (.int .i64 0)).run Tryd.prog w = .ok x w := by kernel_rfl
theorem idx1 (x y z : Value) (w : World) : (Instr.index 52 (.agg #[x, y, z]) (.int .i64 1)).run Tryd.prog w = .ok y w := by kernel_rfl
theorem idx2 (x y z : Value) (w : World) : (Instr.index 52 (.agg #[x, y, z]) (.int .i64 2)).run Tryd.prog w = .ok z w := by kernel_rfl
set_option maxHeartbeats 800000 in
theorem chkP_any (a b c d : Int) (w : World) :
    Calls Tryd.prog 24 #[.agg #[.int .i64 a, .int .i64 b, .int .i64 c, .int .i64 d]] w fun e w' => e = .returned (.int .i64 (chkP a b c d)) ∧ Below w.heap.size w w' := by
  by_cases h1 : d < 1
  · go_enter Tryd.func24, Tryd.ntmps24
    go_wp2
    go_returns
    refine ⟨ret_int ?_, ?_⟩
    · unfold chkP okP; rw [decide_eq_false (by omega)]; rfl
    go_grown
  by_cases h2 : 12 < d
  · go_enter Tryd.func24, Tryd.ntmps24
    go_wp2
    go_returns
    refine ⟨ret_int ?_, ?_⟩
    · unfold chkP okP; rw [decide_eq_false (by omega)]; rfl
    go_grown
  have hd : Hid (decide (1 ≤ d ∧ d ≤ 12) = true) := by exact decide_eq_true (by omega)
  have i0 := fun w => idx0 (.int .i64 a) (.int .i64 b) (.int .i64 c) w
  have i1 := fun w => idx1 (.int .i64 a) (.int .i64 b) (.int .i64 c) w
  have i2 := fun w => idx2 (.int .i64 a) (.int .i64 b) (.int .i64 c) w
  cases ha : inB a 400
  · go_enter Tryd.func24, Tryd.ntmps24
    go_wp2_with (go_at_call 16; refine (expsOf_any _ _ _ _ _).mono ?_; rintro e w1 ⟨rfl, hb⟩; have hB : Below w.heap.size w w1 := below_via (by go_grown) hb)
    refine wp_loop_rounds 4 ?_
    repeat any_goals (rw [rounds_succ]; go_wp2_with (go_at_call 22; refine (within_any _ _ _ (by omega) (by omega)).mono ?_; rintro e w' ⟨rfl, rfl⟩))
    go_returns
    exact ⟨ret_int (by unfold chkP okP; rw [hd.out, ha]; rfl), by assumption⟩
  cases hb' : inB b 400
  · go_enter Tryd.func24, Tryd.ntmps24
    go_wp2_with (go_at_call 16; refine (expsOf_any _ _ _ _ _).mono ?_; rintro e w1 ⟨rfl, hb⟩; have hB : Below w.heap.size w w1 := below_via (by go_grown) hb)
    refine wp_loop_rounds 4 ?_
    repeat any_goals (rw [rounds_succ]; go_wp2_with (go_at_call 22; refine (within_any _ _ _ (by omega) (by omega)).mono ?_; rintro e w' ⟨rfl, rfl⟩))
    go_returns
    exact ⟨ret_int (by unfold chkP okP; rw [hd.out, ha, hb']; rfl), by assumption⟩
  cases hc' : inB c 400
  · go_enter Tryd.func24, Tryd.ntmps24
    go_wp2_with (go_at_call 16; refine (expsOf_any _ _ _ _ _).mono ?_; rintro e w1 ⟨rfl, hb⟩; have hB : Below w.heap.size w w1 := below_via (by go_grown) hb)
    refine wp_loop_rounds 4 ?_
    repeat any_goals (rw [rounds_succ]; go_wp2_with (go_at_call 22; refine (within_any _ _ _ (by omega) (by omega)).mono ?_; rintro e w' ⟨rfl, rfl⟩))
    go_returns
    exact ⟨ret_int (by unfold chkP okP; rw [hd.out, ha, hb', hc']; rfl), by assumption⟩
  · go_enter Tryd.func24, Tryd.ntmps24
    go_wp2_with (go_at_call 16; refine (expsOf_any _ _ _ _ _).mono ?_; rintro e w1 ⟨rfl, hb⟩; have hB : Below w.heap.size w w1 := below_via (by go_grown) hb)
    refine wp_loop_rounds 4 ?_
    repeat any_goals (rw [rounds_succ]; go_wp2_with (go_at_call 22; refine (within_any _ _ _ (by omega) (by omega)).mono ?_; rintro e w' ⟨rfl, rfl⟩))
    go_returns
    exact ⟨ret_int (by unfold chkP okP; rw [hd.out, ha, hb', hc']; rfl), by assumption⟩

-- lowest
theorem tdiv_bd {a g M : Int} (h0 : -M ≤ a) (h1 : a ≤ M) : -M ≤ a.tdiv g ∧ a.tdiv g ≤ M := by
  have h2 : (a.tdiv g).natAbs ≤ a.natAbs := by rw [Int.natAbs_tdiv]; exact Nat.div_le_self _ _
  omega
theorem gcdI_le {x y : Int} (hx : 1 ≤ x) : 1 ≤ gcdI x y ∧ gcdI x y ≤ x := by
  unfold gcdI
  have h1 : (Int.gcd x y : Int) ∣ x := Int.gcd_dvd_left ..
  have h2 := Int.le_of_dvd (by omega) h1
  have h3 : 0 < Int.gcd x y := Int.gcd_pos_of_ne_zero_left _ (by omega)
  omega
def gcd4 (a b c d : Int) : Int := gcdI (gcdI (gcdI (sz d) (sz a)) (sz b)) (sz c)
set_option maxHeartbeats 800000 in
theorem lowest_any (a b c d : Int) (w : World) (ha : -1000000000000000000 ≤ a) (ha' : a ≤ 1000000000000000000) (hb : -1000000000000000000 ≤ b) (hb' : b ≤ 1000000000000000000)
    (hc : -1000000000000000000 ≤ c) (hc' : c ≤ 1000000000000000000) (hd : 1 ≤ d) (hd' : d ≤ 1000000000000000000) :
    Calls Tryd.prog 32 #[.agg #[.int .i64 a, .int .i64 b, .int .i64 c], .int .i64 d] w fun e w' =>
      e = .returned (.tuple #[.agg #[.int .i64 (a.tdiv (gcd4 a b c d)), .int .i64 (b.tdiv (gcd4 a b c d)), .int .i64 (c.tdiv (gcd4 a b c d))], .int .i64 (d.tdiv (gcd4 a b c d))]) ∧ Below w.heap.size w w' := by
  have i0 := fun w => idx0 (.int .i64 a) (.int .i64 b) (.int .i64 c) w
  have i1 := fun w => idx1 (.int .i64 a) (.int .i64 b) (.int .i64 c) w
  have i2 := fun w => idx2 (.int .i64 a) (.int .i64 b) (.int .i64 c) w
  have a0 := sz_nonneg a
  have b0 := sz_nonneg b
  have c0 := sz_nonneg c
  have d0 : 1 ≤ sz d := by unfold sz; omega
  have a1 := sz_le ha ha'
  have b1 := sz_le hb hb'
  have c1 := sz_le hc hc'
  have d1 := sz_le (show -1000000000000000000 ≤ d by omega) hd'
  have g1 := gcdI_le (x := sz d) (y := sz a) d0
  have g1a := g1.1
  have g1b := g1.2
  have g2 := gcdI_le (x := gcdI (sz d) (sz a)) (y := sz b) g1a
  have g2a := g2.1
  have g2b := g2.2
  have g3 := gcdI_le (x := gcdI (gcdI (sz d) (sz a)) (sz b)) (y := sz c) g2a
  have g3a := g3.1
  have g3b := g3.2
  clear g1 g2 g3
  go_enter Tryd.func32, Tryd.ntmps32
  go_wp2_with (go_at_call 36; refine (size_any _ _ (by omega) (by omega)).mono ?_; rintro e w' ⟨rfl, rfl⟩)
  refine wp_loop_rounds 4 ?_
  iterate 4 (rw [rounds_succ]; go_wp2_with (first | (go_at_call 36; refine (size_any _ _ (by omega) (by omega)).mono ?_; rintro e w' ⟨rfl, rfl⟩) | (go_at_call 37; refine (gcd_any _ _ _ (by omega) (by omega) (by omega) (by omega)).mono ?_; rintro e w' ⟨rfl, _, rfl⟩)))
  have ga := tdiv_bd (g := gcdI (gcdI (gcdI (sz d) (sz a)) (sz b)) (sz c)) ha ha'
  have gb := tdiv_bd (g := gcdI (gcdI (gcdI (sz d) (sz a)) (sz b)) (sz c)) hb hb'
  have gc := tdiv_bd (g := gcdI (gcdI (gcdI (sz d) (sz a)) (sz b)) (sz c)) hc hc'
  have gd := tdiv_bd (g := gcdI (gcdI (gcdI (sz d) (sz a)) (sz b)) (sz c)) (show -1000000000000000000 ≤ d by omega) hd'
  have gdd : d.tdiv (gcdI (gcdI (gcdI (sz d) (sz a)) (sz b)) (sz c)) = d / (gcdI (gcdI (gcdI (sz d) (sz a)) (sz b)) (sz c)) := Int.tdiv_eq_ediv_of_nonneg (by omega)
  have g4 : 1 ≤ gcdI (gcdI (gcdI (sz d) (sz a)) (sz b)) (sz c) ∧ gcdI (gcdI (gcdI (sz d) (sz a)) (sz b)) (sz c) ≤ 1000000000000000000 := by omega
  have hgg : gcd4 a b c d = gcdI (gcdI (gcdI (sz d) (sz a)) (sz b)) (sz c) := rfl
  generalize gcdI (gcdI (gcdI (sz d) (sz a)) (sz b)) (sz c) = g at *
  have HGG := Lib.hid hgg
  have HGD := Lib.hid gdd
  obtain ⟨ga0, ga1⟩ := ga
  obtain ⟨gb0, gb1⟩ := gb
  obtain ⟨gc0, gc1⟩ := gc
  obtain ⟨gd0, gd1⟩ := gd
  obtain ⟨g40, g41⟩ := g4
  clear hgg gdd
  refine wp_loop_rounds 4 ?_
  iterate 4 (rw [rounds_succ]; go_wp2)
  go_region
  all_goals go_wp2
  all_goals go_returns
  refine ⟨by rw [HGG.out], ?_⟩
  repeat' (first | (with_reducible exact Below.refl _ _) | (with_reducible assumption) | (with_reducible refine below_drewN ?_ _) | (with_reducible refine Below.drew ?_) | (with_reducible refine Below.setCell ?_ ?_ _) | (with_reducible refine Below.alloc ?_ ?_ _) | go_size)

def nrm (a b c d x : Int) : Int := x.tdiv (gcd4 a b c d)
def okN (a b c d : Int) : Bool := okP (nrm a b c d a) (nrm a b c d b) (nrm a b c d c) (nrm a b c d d)
def pX (a b c d x : Int) : Int := if okN a b c d then nrm a b c d x else 0
def pE (a b c d : Int) : Int := if okN a b c d then 0 else 8
set_option maxHeartbeats 800000 in
theorem pitchOf_any (a b c d : Int) (w : World) (ha : -1000000000000000000 ≤ a) (ha' : a ≤ 1000000000000000000) (hb : -1000000000000000000 ≤ b) (hb' : b ≤ 1000000000000000000)
    (hc : -1000000000000000000 ≤ c) (hc' : c ≤ 1000000000000000000) (hd : 1 ≤ d) (hd' : d ≤ 1000000000000000000) :
    Calls Tryd.prog 25 #[.agg #[.int .i64 a, .int .i64 b, .int .i64 c], .int .i64 d] w fun e w' =>
      e = .returned (.tuple #[.agg #[.int .i64 (pX a b c d a), .int .i64 (pX a b c d b), .int .i64 (pX a b c d c), .int .i64 (pX a b c d d)], .int .i64 (pE a b c d)]) ∧ Below w.heap.size w w' := by
  cases hk : okN a b c d
  all_goals
    have hchk : (chkP (nrm a b c d a) (nrm a b c d b) (nrm a b c d c) (nrm a b c d d) != 0) = (!okN a b c d) := by
      unfold chkP; rw [show okP _ _ _ _ = okN a b c d from rfl, hk]; rfl
    rw [hk] at hchk
    simp only [nrm, Bool.not_false, Bool.not_true] at hchk
    have HK := Lib.hid hk; clear hk
    go_enter Tryd.func25, Tryd.ntmps25
    go_wp2_with fail
    refine (lowest_any a b c d _ ha ha' hb hb' hc hc' hd hd').mono ?_
    rintro e w1 ⟨rfl, h1⟩
    have hB : Below w.heap.size w w1 := below_via (by go_grown) h1
    have hs := h1.size
    simp at hs
    obtain ⟨p0, p1, p2, q0, q1, q2⟩ := (((Box.new w _ _ rfl).alloc _).keep h1).three
    have hR := (Box.new (w.alloc _) _ _ (n := w.heap.size + 1) (by simp)).keep h1
    obtain ⟨r0, r1, r2, r3, s0, s1, s2, s3⟩ := hR.four
    have HR := Lib.hid hR; clear hR h1
    go_wp2_with fail
    refine (chkP_any _ _ _ _ _).mono ?_
    rintro e w2 ⟨rfl, h2⟩
    have hB2 : Below w.heap.size w w2 := below_via (by go_grown) h2
    have hR2 := (((((HR.out).other ⟨w.heap.size, 0, none⟩ _ (by simp)).other ⟨w.heap.size, 1, none⟩ _ (by simp)).other ⟨w.heap.size, 2, none⟩ _ (by simp)).alloc _).keep h2
    obtain ⟨r0, r1, r2, r3, s0, s1, s2, s3⟩ := hR2.four
    obtain ⟨t0, t1, t2, t3, _, _, _, _⟩ := ((Box.new _ _ _ (n := w1.heap.size) (by simp)).keep h2).four
    clear hR2 h2
    go_wp2_with fail
    refine bodyPost_ret (v := .tuple #[.agg #[.int .i64 (pX a b c d a), .int .i64 (pX a b c d b), .int .i64 (pX a b c d c), .int .i64 (pX a b c d d)], .int .i64 (pE a b c d)])
      (by simp [results, Tryd.results25, go_sem, r0, r1, r2, r3, pX, pE, HK.out, nrm]) rfl ⟨rfl, ?_⟩
    go_grown
end Go.Proofs.YtihpkiopeagogaaDoor
