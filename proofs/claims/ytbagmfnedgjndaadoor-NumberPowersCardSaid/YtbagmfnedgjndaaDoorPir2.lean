/-
  The walk of the reference of Normal.
-/
import Derived.Test.YtbagmfnedgjndaaDoorPir
import Derived.Test.YtbagmfnedgjndaaDoorFra
import Derived.Deep.RegionHeld3
namespace Go.Proofs.YtbagmfnedgjndaaDoor
open Go.RowKit

theorem gcd4_eq (a b c d : Int) : gcdI (gcdI a b) (gcdI c d) = gcd4 a b c d := by
  unfold gcd4 gcdI sz
  simp only [Int.gcd, Int.natAbs_natCast]
  congr 1
  generalize a.natAbs = p; generalize b.natAbs = q; generalize c.natAbs = r; generalize d.natAbs = s
  ac_rfl
theorem gcdI_bd {x y m : Int} (h0 : -m ≤ x) (h1 : x ≤ m) (h2 : -m ≤ y) (h3 : y ≤ m) : gcdI x y ≤ m := by
  unfold gcdI Int.gcd
  rcases Nat.eq_zero_or_pos x.natAbs with h | h
  · rw [h, Nat.gcd_zero_left]; omega
  · have := Nat.gcd_le_left y.natAbs h; omega
theorem gcd4_pos {a b c d : Int} (hd : 1 ≤ d) : 1 ≤ gcd4 a b c d := by
  rw [← gcd4_eq]
  have h1 := (gcdI_le (x := d) (y := c) hd).1
  rw [gcdI_sw] at h1
  have h2 := (gcdI_le (x := gcdI c d) (y := gcdI a b) h1).1
  rw [gcdI_sw] at h2
  exact h2

set_option maxRecDepth 100000 in
set_option maxHeartbeats 1600000 in
theorem rnormal_any (a b c d : Int) (w : World) (ha : -1000000000000000000 ≤ a) (ha' : a ≤ 1000000000000000000) (hb : -1000000000000000000 ≤ b) (hb' : b ≤ 1000000000000000000)
    (hc : -1000000000000000000 ≤ c) (hc' : c ≤ 1000000000000000000) (hd : 1 ≤ d) (hd' : d ≤ 1000000000000000000) :
    Calls Tryd.prog 36 #[.agg #[.int .i64 a, .int .i64 b, .int .i64 c, .int .i64 d]] w fun e w' =>
      e = .returned (.agg #[.int .i64 (nrm a b c d a), .int .i64 (nrm a b c d b), .int .i64 (nrm a b c d c), .int .i64 (nrm a b c d d)]) ∧ Below w.heap.size w w' := by
  have g1 := gcdI_bd ha ha' hb hb'
  have g2 := gcdI_bd (x := c) (y := d) (m := 1000000000000000000) hc hc' (by omega) hd'
  have g10 := gcdI_nonneg a b
  have g20 := gcdI_nonneg c d
  have g3 := gcdI_bd (x := gcdI a b) (y := gcdI c d) (m := 1000000000000000000) (by omega) (by omega) (by omega) (by omega)
  have g30 := gcd4_pos (a := a) (b := b) (c := c) hd
  have HG := Lib.hid (show gcdI (gcdI a b) (gcdI c d) = gcd4 a b c d from gcd4_eq a b c d)
  rw [HG.out] at g3
  have CC := Lib.hid (fun (x y : Int) (u : World) (h0 : -1000000000000000000 ≤ x) (h1 : x ≤ 1000000000000000000) (h2 : -1000000000000000000 ≤ y) (h3 : y ≤ 1000000000000000000) =>
    Gcd_any x y u (by omega) (by omega) (by omega) (by omega) (by have := gcdI_bd h0 h1 h2 h3; omega))
  have na := tdiv_bd (g := gcd4 a b c d) ha ha'
  have nb := tdiv_bd (g := gcd4 a b c d) hb hb'
  have nc := tdiv_bd (g := gcd4 a b c d) hc hc'
  have nd := tdiv_bd (g := gcd4 a b c d) (show -1000000000000000000 ≤ d by omega) hd'
  have ndd : d.tdiv (gcd4 a b c d) = d / (gcd4 a b c d) := Int.tdiv_eq_ediv_of_nonneg (by omega)
  have NA := Lib.hid (show nrm a b c d a = a.tdiv (gcd4 a b c d) from rfl); have NB := Lib.hid (show nrm a b c d b = b.tdiv (gcd4 a b c d) from rfl)
  have NC := Lib.hid (show nrm a b c d c = c.tdiv (gcd4 a b c d) from rfl); have ND := Lib.hid (show nrm a b c d d = d.tdiv (gcd4 a b c d) from rfl)
  go_enter Tryd.func36, Tryd.ntmps36
  go_wp2_with fail
  go_quiet ((go_at_call 85; refine (CC.out _ _ _ (by omega) (by omega) (by omega) (by omega)).mono ?_; rintro e w9 ⟨rfl, m9, rfl⟩; exact ⟨rfl, _, by rw [World.drewN_drewN]⟩))
  go_wp2_with fail
  rw [HG.out]
  generalize gcd4 a b c d = g at *
  obtain ⟨na0, na1⟩ := na
  obtain ⟨nb0, nb1⟩ := nb
  obtain ⟨nc0, nc1⟩ := nc
  obtain ⟨nd0, nd1⟩ := nd
  have wa : IntKind.i64.wrap (a.tdiv g) = a.tdiv g := IntWalk.i64_in _ (by omega)
  have wb : IntKind.i64.wrap (b.tdiv g) = b.tdiv g := IntWalk.i64_in _ (by omega)
  have wc : IntKind.i64.wrap (c.tdiv g) = c.tdiv g := IntWalk.i64_in _ (by omega)
  have wd : IntKind.i64.wrap (d.tdiv g) = d.tdiv g := IntWalk.i64_in _ (by omega)
  have wd2 : IntKind.i64.wrap (d / g) = d.tdiv g := by rw [← ndd]; exact IntWalk.i64_in _ (by omega)
  have hgn : g ≠ 0 := by omega
  have hg0 : (g == 0) = false := by simp; omega
  have A := ((Box.new w #[.int .i64 a, .int .i64 b, .int .i64 c, .int .i64 d] 47 rfl).alloc (.cells #[.int .i64 0, .int .i64 0, .int .i64 0, .int .i64 0] 47)).drewN nq
  have R := (Box.new (w.alloc (.cells #[.int .i64 a, .int .i64 b, .int .i64 c, .int .i64 d] 47)) #[.int .i64 0, .int .i64 0, .int .i64 0, .int .i64 0] 47 (n := w.heap.size + 1) (by simp)).drewN nq
  have BW : Below w.heap.size w (((w.alloc (.cells #[.int .i64 a, .int .i64 b, .int .i64 c, .int .i64 d] 47)).alloc (.cells #[.int .i64 0, .int .i64 0, .int .i64 0, .int .i64 0] 47)).drewN nq) := below_drewN (by go_grown) _
  generalize (((w.alloc (.cells #[.int .i64 a, .int .i64 b, .int .i64 c, .int .i64 d] 47)).alloc (.cells #[.int .i64 0, .int .i64 0, .int .i64 0, .int .i64 0] 47)).drewN nq) = u at *
  have zb := BW.size
  have la := A.lt
  have lr := R.lt
  obtain ⟨a0, a1, a2, a3, _⟩ := A.four
  obtain ⟨r0, r1, r2, r3, f0, f1, f2, f3⟩ := R.four
  have HA := Lib.hid A
  clear A R
  have K := Lib.hid (fun (w' : World) (hw : Below u.heap.size u w') => show w'.cell? ⟨w.heap.size, 0, none⟩ = some (.int .i64 a) ∧ w'.cell? ⟨w.heap.size, 1, none⟩ = some (.int .i64 b) ∧ w'.cell? ⟨w.heap.size, 2, none⟩ = some (.int .i64 c) ∧ w'.cell? ⟨w.heap.size, 3, none⟩ = some (.int .i64 d) from ⟨(HA.out.keep hw).cell 0, (HA.out.keep hw).cell 1, (HA.out.keep hw).cell 2, (HA.out.keep hw).cell 3⟩)
  have KS := Lib.hid (fun x y z t : Value => (Box.other (Box.other (Box.other (Box.other HA.out ⟨w.heap.size + 1, 0, none⟩ x (by simp)) ⟨w.heap.size + 1, 1, none⟩ y (by simp)) ⟨w.heap.size + 1, 2, none⟩ z (by simp)) ⟨w.heap.size + 1, 3, none⟩ t (by simp)).drew)
  go_region_held3 (fun w' => w'.cell? ⟨w.heap.size, 0, none⟩ = some (.int .i64 a) ∧ w'.cell? ⟨w.heap.size, 1, none⟩ = some (.int .i64 b) ∧ w'.cell? ⟨w.heap.size, 2, none⟩ = some (.int .i64 c) ∧ w'.cell? ⟨w.heap.size, 3, none⟩ = some (.int .i64 d))
    ((first | (refine K.out _ ?_; go_grown; done) | (exact ⟨(KS.out _ _ _ _).cell 0, (KS.out _ _ _ _).cell 1, (KS.out _ _ _ _).cell 2, (KS.out _ _ _ _).cell 3⟩))) (fail)
  all_goals
    go_wp2_with fail
    refine bodyPost_ret (v := .agg #[.int .i64 (nrm a b c d a), .int .i64 (nrm a b c d b), .int .i64 (nrm a b c d c), .int .i64 (nrm a b c d d)])
      (by simp [results, Tryd.results36, go_sem, r0, r1, r2, r3, NA.out, NB.out, NC.out, ND.out, ndd]) rfl ⟨rfl, ?_⟩
    repeat' (first | (with_reducible exact Below.refl _ _) | (with_reducible assumption) | (with_reducible refine below_drewN ?_ _) | (with_reducible refine Below.drew ?_) | (with_reducible refine Below.setCell ?_ ?_ _) | (with_reducible refine Below.alloc ?_ ?_ _) | go_size)
end Go.Proofs.YtbagmfnedgjndaaDoor
