/-
  The walks of reducedWithin and of its reference.
-/
import Derived.Test.YtbagmfnedgjndaaDoorFra
namespace Go.Proofs.YtbagmfnedgjndaaDoor
open Go.RowKit

def fwE (n d : Int) : Int := if chkF (redN n d) (redD n d) ≠ 0 then 8 else 0
def fwN (n d : Int) : Int := if fwE n d = 0 then redN n d else 0
def fwD (n d : Int) : Int := if fwE n d = 0 then redD n d else 0

set_option maxHeartbeats 1600000 in
theorem redW_any (n d : Int) (w : World) (h0 : -4000000000000000000 ≤ n) (h1 : n ≤ 4000000000000000000) (hd : 1 ≤ d) (hd' : d ≤ 4000000000000000000) :
    Calls Tryd.prog 68 #[.int .i64 n, .int .i64 d] w fun e w' =>
      e = .returned (.tuple #[.agg #[.int .i64 (fwN n d), .int .i64 (fwD n d)], .int .i64 (fwE n d)]) ∧ Below w.heap.size w w' := by
  have b1 := tdiv_bd (g := gcdI n d) h0 h1
  have b2 := tdiv_bd (g := gcdI n d) (show -4000000000000000000 ≤ d by omega) hd'
  rw [show n.tdiv (gcdI n d) = redN n d from rfl] at b1
  rw [show d.tdiv (gcdI n d) = redD n d from rfl] at b2
  obtain ⟨b10, b11⟩ := b1
  obtain ⟨b20, b21⟩ := b2
  have RD := Lib.hid (fun u : World => reduced_any n d u h0 h1 hd hd')
  have CK := Lib.hid (fun u : World => chkF_any (redN n d) (redD n d) u (by omega) (by omega) (by omega) (by omega))
  have F1 := Lib.hid (show fwN n d = if fwE n d = 0 then redN n d else 0 from rfl)
  have F2 := Lib.hid (show fwD n d = if fwE n d = 0 then redD n d else 0 from rfl)
  have F3 := Lib.hid (show fwE n d = if chkF (redN n d) (redD n d) ≠ 0 then 8 else 0 from rfl)
  generalize redN n d = x at *
  generalize redD n d = y at *
  by_cases h : chkF x y = 0
  all_goals
    first
    | (have hc : (chkF x y != 0) = false := by simpa using h)
    | (have hc : (chkF x y != 0) = true := by simpa using h)
    have HH := Lib.hid h
    clear h
    go_enter Tryd.func68, Tryd.ntmps68
    go_wp2_with fail
    refine (RD.out _).mono ?_
    rintro e w1 ⟨rfl, k1⟩
    have B1 : Below w.heap.size w w1 := below_via (by go_grown) k1
    have z1 := B1.size
    have z2 := k1.size
    simp at z2
    have R1 := Lib.hid ((Box.new w #[.int .i64 0, .int .i64 0] 23 rfl).keep k1)
    have r0' : ∀ o, (w1.alloc o).cell? ⟨w.heap.size, 0, none⟩ = some (.int .i64 0) := fun o => (R1.out.alloc o).cell 0
    have r1' : ∀ o, (w1.alloc o).cell? ⟨w.heap.size, 1, none⟩ = some (.int .i64 0) := fun o => (R1.out.alloc o).cell 1
    clear k1
    go_wp2_with fail
    refine (CK.out _).mono ?_
    rintro e w2 ⟨rfl, k2⟩
    have B2 : Below w.heap.size w w2 := below_via (by go_grown) k2
    have z3 := B2.size
    have z4 := k2.size
    simp at z4
    have R2 := Lib.hid ((R1.out.alloc (.cells #[.int .i64 x, .int .i64 y] 23)).keep k2)
    have S2 := Lib.hid ((Box.new w1 #[.int .i64 x, .int .i64 y] 23 rfl).keep k2)
    obtain ⟨r0, r1, _, _⟩ := R2.out.two
    obtain ⟨s0, s1, _, _⟩ := S2.out.two
    clear k2 r0' r1'
    go_wp2_with fail
    refine bodyPost_ret (v := .tuple #[.agg #[.int .i64 (fwN n d), .int .i64 (fwD n d)], .int .i64 (fwE n d)])
      (by simp [results, Tryd.results68, go_sem, r0, r1, F1.out, F2.out, F3.out, HH.out]) rfl ⟨rfl, ?_⟩
    go_grown

set_option maxHeartbeats 1600000 in
theorem lowest2_any (n d : Int) (w : World) (h0 : -4000000000000000000 ≤ n) (h1 : n ≤ 4000000000000000000) (hd : 1 ≤ d) (hd' : d ≤ 4000000000000000000) :
    Calls Tryd.prog 113 #[.int .i64 n, .int .i64 d] w fun e w' => e = .returned (.agg #[.int .i64 (redN n d), .int .i64 (redD n d)]) ∧ Below w.heap.size w w' := by
  have g := gcdI_le (x := d) (y := n) hd
  rw [gcdI_sw] at g
  obtain ⟨g0, g1⟩ := g
  have n1 := tdiv_bd (g := gcdI n d) h0 h1
  have n0 := n1.1
  have n2 := n1.2
  have e1 := tdiv_bd (g := gcdI n d) (show -4000000000000000000 ≤ d by omega) hd'
  have e0 := e1.1
  have e2 := e1.2
  have HN := Lib.hid (show redN n d = n.tdiv (gcdI n d) from rfl); have HD := Lib.hid (show redD n d = d.tdiv (gcdI n d) from rfl)
  have GC := Lib.hid (fun u : World => Gcd_any n d u (by omega) (by omega) (by omega) (by omega) (by omega))
  clear n1 e1
  go_enter Tryd.func113, Tryd.ntmps113
  go_wp2_with (go_at_call 85; refine (GC.out _).mono ?_; rintro e w' ⟨rfl, _, rfl⟩)
  generalize gcdI n d = g at *
  go_region
  all_goals go_wp2
  all_goals refine bodyPost_ret (v := .agg #[.int .i64 (redN n d), .int .i64 (redD n d)]) (by simp [results, Tryd.results113, go_sem, HN.out, HD.out]) rfl ⟨rfl, ?_⟩
  all_goals repeat' (first | (with_reducible exact Below.refl _ _) | (with_reducible assumption) | (with_reducible refine below_drewN ?_ _) | (with_reducible refine Below.drew ?_) | (with_reducible refine Below.setCell ?_ ?_ _) | (with_reducible refine Below.alloc ?_ ?_ _) | go_size)

set_option maxHeartbeats 1600000 in
theorem fit_any (n d : Int) (w : World) (h0 : -4000000000000000000 ≤ n) (h1 : n ≤ 4000000000000000000) (hd : 1 ≤ d) (hd' : d ≤ 4000000000000000000) :
    Calls Tryd.prog 74 #[.int .i64 n, .int .i64 d] w fun e w' =>
      e = .returned (.tuple #[.agg #[.int .i64 (fwN n d), .int .i64 (fwD n d)], .int .i64 (fwE n d)]) ∧ Below w.heap.size w w' := by
  have b1 := tdiv_bd (g := gcdI n d) h0 h1
  have b2 := tdiv_bd (g := gcdI n d) (show -4000000000000000000 ≤ d by omega) hd'
  rw [show n.tdiv (gcdI n d) = redN n d from rfl] at b1
  rw [show d.tdiv (gcdI n d) = redD n d from rfl] at b2
  obtain ⟨b10, b11⟩ := b1
  obtain ⟨b20, b21⟩ := b2
  have RD := Lib.hid (fun u : World => lowest2_any n d u h0 h1 hd hd')
  have CK := Lib.hid (fun u : World => rchkF_any (redN n d) (redD n d) u (by omega) (by omega) (by omega) (by omega))
  have F1 := Lib.hid (show fwN n d = if fwE n d = 0 then redN n d else 0 from rfl)
  have F2 := Lib.hid (show fwD n d = if fwE n d = 0 then redD n d else 0 from rfl)
  have F3 := Lib.hid (show fwE n d = if chkF (redN n d) (redD n d) ≠ 0 then 8 else 0 from rfl)
  generalize redN n d = x at *
  generalize redD n d = y at *
  by_cases h : chkF x y = 0
  all_goals
    first
    | (have hc : (chkF x y != 0) = false := by simpa using h)
    | (have hc : (chkF x y != 0) = true := by simpa using h)
    have HH := Lib.hid h
    clear h
    go_enter Tryd.func74, Tryd.ntmps74
    go_wp2_with fail
    refine (RD.out _).mono ?_
    rintro e w1 ⟨rfl, k1⟩
    have B1 : Below w.heap.size w w1 := below_via (by go_grown) k1
    have z1 := B1.size
    have z2 := k1.size
    simp at z2
    have R1 := Lib.hid ((Box.new w #[.int .i64 0, .int .i64 0] 23 rfl).keep k1)
    have r0' : ∀ o, (w1.alloc o).cell? ⟨w.heap.size, 0, none⟩ = some (.int .i64 0) := fun o => (R1.out.alloc o).cell 0
    have r1' : ∀ o, (w1.alloc o).cell? ⟨w.heap.size, 1, none⟩ = some (.int .i64 0) := fun o => (R1.out.alloc o).cell 1
    clear k1
    go_wp2_with fail
    refine (CK.out _).mono ?_
    rintro e w2 ⟨rfl, k2⟩
    have B2 : Below w.heap.size w w2 := below_via (by go_grown) k2
    have z3 := B2.size
    have z4 := k2.size
    simp at z4
    have R2 := Lib.hid ((R1.out.alloc (.cells #[.int .i64 x, .int .i64 y] 23)).keep k2)
    have S2 := Lib.hid ((Box.new w1 #[.int .i64 x, .int .i64 y] 23 rfl).keep k2)
    obtain ⟨r0, r1, _, _⟩ := R2.out.two
    obtain ⟨s0, s1, _, _⟩ := S2.out.two
    clear k2 r0' r1'
    go_wp2_with fail
    refine bodyPost_ret (v := .tuple #[.agg #[.int .i64 (fwN n d), .int .i64 (fwD n d)], .int .i64 (fwE n d)])
      (by simp [results, Tryd.results74, go_sem, r0, r1, F1.out, F2.out, F3.out, HH.out]) rfl ⟨rfl, ?_⟩
    go_grown
end Go.Proofs.YtbagmfnedgjndaaDoor
