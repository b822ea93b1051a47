/-
  Moments of forces.
-/
import Derived.Test.YtahfliboanphkaaFsu
import Derived.Deep.RegionWith
namespace Go.Proofs.Ytahfliboanphkaa
open Go.RowKit
def mX (t1 t2 : Int) (p : Pf) : Int := (p.y + -t1) * p.r - (p.z + -t2) * p.q
def mY (t0 t2 : Int) (p : Pf) : Int := (p.z + -t2) * p.p - (p.x + -t0) * p.r
def mZ (t0 t1 : Int) (p : Pf) : Int := (p.x + -t0) * p.q - (p.y + -t1) * p.p
theorem cross_bd {a b c d : Int} (a0 : -2000000 ≤ a) (a1 : a ≤ 2000000) (b0 : -1000000000 ≤ b) (b1 : b ≤ 1000000000) (c0 : -2000000 ≤ c) (c1 : c ≤ 2000000) (d0 : -1000000000 ≤ d) (d1 : d ≤ 1000000000) : -4000000000000000 ≤ a * b - c * d ∧ a * b - c * d ≤ 4000000000000000 := by
  have h1 := mul_bd (A := 2000000) (B := 1000000000) (a := a) (b := b) (by omega) (by omega) (by omega) (by omega)
  have h2 := mul_bd (A := 2000000) (B := 1000000000) (a := c) (b := d) (by omega) (by omega) (by omega) (by omega)
  omega
theorem arm_bd {p : Pf} {t0 t1 t2 : Int} (hp : badP p = false) (ht : Big 1000000 t0 t1 t2) : Big 2000000 (p.x + -t0) (p.y + -t1) (p.z + -t2) := by
  have := (badP_no hp).1
  unfold Big at *; omega
theorem m_bd {p : Pf} {t0 t1 t2 : Int} (hp : badP p = false) (ht : Big 1000000 t0 t1 t2) : Big 4000000000000000 (mX t1 t2 p) (mY t0 t2 p) (mZ t0 t1 p) := by
  obtain ⟨⟨a0, a1⟩, ⟨a2, a3⟩, a4, a5⟩ := arm_bd hp ht
  obtain ⟨⟨f0, f1⟩, ⟨f2, f3⟩, f4, f5⟩ := (badP_no hp).2
  exact ⟨cross_bd a2 a3 f4 f5 a4 a5 f2 f3, cross_bd a4 a5 f0 f1 a0 a1 f4 f5, cross_bd a0 a1 f2 f3 a2 a3 f0 f1⟩
theorem mom_bd {l : List Pf} (h : okL l) {t0 t1 t2 : Int} (ht : Big 1000000 t0 t1 t2) {k : Nat} (hk : k ≤ l.length) : Big 1200000000000000000 (sA (mX t1 t2) l k) (sA (mY t0 t2) l k) (sA (mZ t0 t1) l k) := by
  have a := sA_bd (g := mX t1 t2) (l := l) (M := 4000000000000000) (fun p hp => (m_bd (h.2 p hp) ht).1) (by omega) k hk
  have b := sA_bd (g := mY t0 t2) (l := l) (M := 4000000000000000) (fun p hp => (m_bd (h.2 p hp) ht).2.1) (by omega) k hk
  have c := sA_bd (g := mZ t0 t1) (l := l) (M := 4000000000000000) (fun p hp => (m_bd (h.2 p hp) ht).2.2) (by omega) k hk
  have := h.1
  unfold Big; omega
def MoRel (l : List Pf) (t0 t1 t2 : Int) (ab rb sb : Nat) (T T2 : TypeId) (w : World) (v : Value) (wr : World) : Prop :=
  ∃ k : Nat, k ≤ l.length ∧ v = .int .i64 (k : Int) ∧ Box wr ab #[.int .i64 t0, .int .i64 t1, .int .i64 t2] T2 ∧ Box wr rb #[.int .i64 0, .int .i64 0, .int .i64 0] T ∧ Box wr sb #[.int .i64 (sA (mX t1 t2) l k), .int .i64 (sA (mY t0 t2) l k), .int .i64 (sA (mZ t0 t1) l k)] T ∧ Below w.heap.size w wr
set_option maxRecDepth 100000 in
set_option maxHeartbeats 1600000 in
theorem momentAbout_any (l : List Pf) (t0 t1 t2 : Int) (a : Option Addr) (cap : Nat) (w : World) (ho : okL l) (ht : Big 1000000 t0 t1 t2) (hp : PlAt w a l) :
    Calls Try.prog 47 #[vec t0 t1 t2, .slice a l.length cap] w fun e w' => e = .returned (vec (sA (mX t1 t2) l l.length) (sA (mY t0 t2) l l.length) (sA (mZ t0 t1) l l.length)) ∧ Below w.heap.size w w' := by
  have HP := Lib.hid hp; have HO := Lib.hid ho; have HT := Lib.hid ht
  have hl := ho.1
  clear hp ho ht
  go_enter Try.func47, Try.ntmps47
  go_wp2_with fail
  go_loopw [11] (MoRel l t0 t1 t2 w.heap.size (w.heap.size + 1) (w.heap.size + 1 + 1) 91 91 w) (fun i _ => l.length - (intOf i).toNat)
  case atStart => exact ⟨0, by omega, rfl, ((Box.new _ _ _ rfl).alloc _).alloc _, (Box.new _ _ _ (by simp)).alloc _, Box.new _ _ _ (by simp), by go_grown⟩
  case round =>
    obtain ⟨k, hk, rfl, hba, hb0, hb1, hB⟩ := hrel
    have RA := Lib.hid hba; have R0 := Lib.hid hb0; have R1 := Lib.hid hb1; clear hba hb0 hb1
    have zr := hB.size
    have l1 := R1.out.lt
    by_cases hkl : k < l.length
    · rcases HP.out.keep hB with h0 | ⟨b, o, rfl, hbl, hc⟩
      · rw [h0] at hkl; simp at hkl
      obtain ⟨c0, c1, c2, c3, c4, c5⟩ := hc k hkl
      clear hc
      rcases hlk : l[k] with ⟨x, y, z, p, q, r⟩
      rw [hlk] at c0 c1 c2 c3 c4 c5
      have GO := Lib.hid (And.intro (sA_go (g := mX t1 t2) hkl hlk) (And.intro (sA_go (g := mY t0 t2) hkl hlk) (sA_go (g := mZ t0 t1) hkl hlk)))
      have hbad := HO.out.2 _ (List.getElem_mem hkl)
      rw [hlk] at hbad
      have harm := arm_bd hbad HT.out
      have hfor := (badP_no hbad).2
      have hat := (badP_no hbad).1
      have hmb := m_bd hbad HT.out
      dsimp only at c0 c1 c2 c3 c4 c5 harm hfor hat GO
      have C1 := Lib.hid (fun u => vfrom_any x y z t0 t1 t2 u (hat.up (by omega)) (HT.out.up (by omega)))
      have C2 := Lib.hid (fun u => across_any (x + -t0) (y + -t1) (z + -t2) p q r u harm hfor)
      have C3 := Lib.hid (fun u => vplus_any (sA (mX t1 t2) l k) (sA (mY t0 t2) l k) (sA (mZ t0 t1) l k) (mX t1 t2 ⟨x, y, z, p, q, r⟩) (mY t0 t2 ⟨x, y, z, p, q, r⟩) (mZ t0 t1 ⟨x, y, z, p, q, r⟩) u ((mom_bd HO.out HT.out hk).up (by omega)) (hmb.up (by omega)))
      rw [show (y + -t1) * r - (z + -t2) * q = mX t1 t2 ⟨x, y, z, p, q, r⟩ from rfl, show (z + -t2) * p - (x + -t0) * r = mY t0 t2 ⟨x, y, z, p, q, r⟩ from rfl, show (x + -t0) * q - (y + -t1) * p = mZ t0 t1 ⟨x, y, z, p, q, r⟩ from rfl] at C2
      clear hlk harm hfor hat hbad hmb
      generalize sA (mX t1 t2) l k = A0 at *
      generalize sA (mY t0 t2) l k = A1 at *
      generalize sA (mZ t0 t1) l k = A2 at *
      generalize mX t1 t2 ⟨x, y, z, p, q, r⟩ = X at *
      generalize mY t0 t2 ⟨x, y, z, p, q, r⟩ = Y at *
      generalize mZ t0 t1 ⟨x, y, z, p, q, r⟩ = Z at *
      generalize x + -t0 = dx at *
      generalize y + -t1 = dy at *
      generalize z + -t2 = dz at *
      obtain ⟨n0, n1, n2, -⟩ := RA.out.three
      have la := RA.out.lt
      go_wp2_with fail
      clear n0 n1 n2 c0 c1 c2 c3 c4 c5
      refine (C1.out _).mono ?_
      rintro e w1 ⟨rfl, h⟩
      have B1 : Below w.heap.size w w1 := below_via (by (repeat' (first | (with_reducible exact Below.refl _ _) | (with_reducible assumption) | (with_reducible refine Below.drew ?_) | (with_reducible refine below_drewN ?_ _) | (with_reducible refine Below.setCell ?_ ?_ _) | (with_reducible refine Below.alloc ?_ ?_ _) | go_size | omega))) h
      have FF := Lib.hid ((Box.new wr #[.int .i64 x, .int .i64 y, .int .i64 z, .int .i64 p, .int .i64 q, .int .i64 r] 27 (n := wr.heap.size) rfl).keep h)
      have RA' := Lib.hid ((RA.out.alloc (.cells #[.int .i64 x, .int .i64 y, .int .i64 z, .int .i64 p, .int .i64 q, .int .i64 r] 27)).keep h); have R0' := Lib.hid ((R0.out.alloc (.cells #[.int .i64 x, .int .i64 y, .int .i64 z, .int .i64 p, .int .i64 q, .int .i64 r] 27)).keep h); have R1' := Lib.hid ((R1.out.alloc (.cells #[.int .i64 x, .int .i64 y, .int .i64 z, .int .i64 p, .int .i64 q, .int .i64 r] 27)).keep h)
      have z1 := h.size
      simp at z1
      clear h RA R0 R1 C1 l1 la
      have lff := FF.out.lt
      go_wp2_with fail
      have DD := Lib.hid (Box.new w1 #[.int .i64 dx, .int .i64 dy, .int .i64 dz] 91 (n := w1.heap.size) rfl)
      have FF2 := Lib.hid (FF.out.alloc (.cells #[.int .i64 dx, .int .i64 dy, .int .i64 dz] 91)); have RA2 := Lib.hid (RA'.out.alloc (.cells #[.int .i64 dx, .int .i64 dy, .int .i64 dz] 91)); have R02 := Lib.hid (R0'.out.alloc (.cells #[.int .i64 dx, .int .i64 dy, .int .i64 dz] 91)); have R12 := Lib.hid (R1'.out.alloc (.cells #[.int .i64 dx, .int .i64 dy, .int .i64 dz] 91))
      have B2 : Below w.heap.size w (w1.alloc (.cells #[.int .i64 dx, .int .i64 dy, .int .i64 dz] 91)) := by (repeat' (first | (with_reducible exact Below.refl _ _) | (with_reducible assumption) | (with_reducible refine Below.drew ?_) | (with_reducible refine below_drewN ?_ _) | (with_reducible refine Below.setCell ?_ ?_ _) | (with_reducible refine Below.alloc ?_ ?_ _) | go_size | omega))
      clear FF RA' R0' R1' lff
      generalize w1.alloc (.cells #[.int .i64 dx, .int .i64 dy, .int .i64 dz] 91) = u at *
      generalize w1.heap.size = db at *
      have ldd := DD.out.lt; have lff := FF2.out.lt; have l1 := R12.out.lt
      obtain ⟨m0, m1, m2, -⟩ := R12.out.three
      have K := Lib.hid (fun (w' : World) (hw : Below u.heap.size u w') => show (w'.cell? ⟨db, 0, none⟩ = some (.int .i64 dx) ∧ w'.cell? ⟨db, 1, none⟩ = some (.int .i64 dy) ∧ w'.cell? ⟨db, 2, none⟩ = some (.int .i64 dz)) ∧ (w'.cell? ⟨wr.heap.size, 3, none⟩ = some (.int .i64 p) ∧ w'.cell? ⟨wr.heap.size, 4, none⟩ = some (.int .i64 q) ∧ w'.cell? ⟨wr.heap.size, 5, none⟩ = some (.int .i64 r)) from ⟨⟨(DD.out.keep hw).cell 0, (DD.out.keep hw).cell 1, (DD.out.keep hw).cell 2⟩, (FF2.out.keep hw).cell 3, (FF2.out.keep hw).cell 4, (FF2.out.keep hw).cell 5⟩)
      obtain ⟨k0, k1, k2⟩ := show (u.cell? ⟨db, 0, none⟩ = some (.int .i64 dx) ∧ u.cell? ⟨db, 1, none⟩ = some (.int .i64 dy) ∧ u.cell? ⟨db, 2, none⟩ = some (.int .i64 dz)) from ⟨DD.out.cell 0, DD.out.cell 1, DD.out.cell 2⟩
      obtain ⟨k3, k4, k5⟩ := show (u.cell? ⟨wr.heap.size, 3, none⟩ = some (.int .i64 p) ∧ u.cell? ⟨wr.heap.size, 4, none⟩ = some (.int .i64 q) ∧ u.cell? ⟨wr.heap.size, 5, none⟩ = some (.int .i64 r)) from ⟨FF2.out.cell 3, FF2.out.cell 4, FF2.out.cell 5⟩
      go_region_with (first | (go_at_call 81; refine (C2.out _).mono ?_; rintro e w8 ⟨rfl, h8⟩; have hB8 : Below u.heap.size u w8 := below_via (by (repeat' (first | (with_reducible exact Below.refl _ _) | (with_reducible assumption) | (with_reducible refine Below.drew ?_) | (with_reducible refine below_drewN ?_ _) | (with_reducible refine Below.setCell ?_ ?_ _) | (with_reducible refine Below.alloc ?_ ?_ _) | go_size | omega))) h8; clear h8; have hz8 := hB8.size; obtain ⟨n0, n1, n2, -⟩ := (R12.out.keep hB8).three; have ln := (R12.out.keep hB8).lt) | (go_at_call 80; refine (C3.out _).mono ?_; rintro e w9 ⟨rfl, h9⟩; have hB9 : Below u.heap.size u w9 := below_via (by (repeat' (first | (with_reducible exact Below.refl _ _) | (with_reducible assumption) | (with_reducible refine Below.drew ?_) | (with_reducible refine below_drewN ?_ _) | (with_reducible refine Below.setCell ?_ ?_ _) | (with_reducible refine Below.alloc ?_ ?_ _) | go_size | omega))) h9; clear h9; have hz9 := hB9.size; obtain ⟨o0, o1, o2, f0, f1, f2⟩ := (R12.out.keep hB9).three; have lo := (R12.out.keep hB9).lt))
      all_goals
        clear o0 o1 o2 f0 f1 f2 m0 m1 m2 k0 k1 k2 k3 k4 k5
        have QA := (RA2.out.keep hB9).other ⟨w.heap.size + 1 + 1, 0, none⟩ (.int .i64 (A0 + X)) (by first | (simp; done) | (simp; omega)) |>.other ⟨w.heap.size + 1 + 1, 1, none⟩ (.int .i64 (A1 + Y)) (by first | (simp; done) | (simp; omega)) |>.other ⟨w.heap.size + 1 + 1, 2, none⟩ (.int .i64 (A2 + Z)) (by first | (simp; done) | (simp; omega))
        have Q0 := (R02.out.keep hB9).other ⟨w.heap.size + 1 + 1, 0, none⟩ (.int .i64 (A0 + X)) (by first | (simp; done) | (simp; omega)) |>.other ⟨w.heap.size + 1 + 1, 1, none⟩ (.int .i64 (A1 + Y)) (by first | (simp; done) | (simp; omega)) |>.other ⟨w.heap.size + 1 + 1, 2, none⟩ (.int .i64 (A2 + Z)) (by first | (simp; done) | (simp; omega))
        have Q1 : Box (((w9.setCell ⟨w.heap.size + 1 + 1, 0, none⟩ (.int .i64 (A0 + X))).setCell ⟨w.heap.size + 1 + 1, 1, none⟩ (.int .i64 (A1 + Y))).setCell ⟨w.heap.size + 1 + 1, 2, none⟩ (.int .i64 (A2 + Z))) (w.heap.size + 1 + 1) #[.int .i64 (A0 + X), .int .i64 (A1 + Y), .int .i64 (A2 + Z)] 91 := (((R12.out.keep hB9).set 0 _).set 1 _).set 2 _
        have BQ9 : Below w.heap.size w w9 := below_via B2 hB9
        have BQ : Below w.heap.size w (((w9.setCell ⟨w.heap.size + 1 + 1, 0, none⟩ (.int .i64 (A0 + X))).setCell ⟨w.heap.size + 1 + 1, 1, none⟩ (.int .i64 (A1 + Y))).setCell ⟨w.heap.size + 1 + 1, 2, none⟩ (.int .i64 (A2 + Z))) := by (repeat' (first | (with_reducible exact Below.refl _ _) | (with_reducible assumption) | (with_reducible refine Below.drew ?_) | (with_reducible refine below_drewN ?_ _) | (with_reducible refine Below.setCell ?_ ?_ _) | (with_reducible refine Below.alloc ?_ ?_ _) | go_size | omega))
        generalize (((w9.setCell ⟨w.heap.size + 1 + 1, 0, none⟩ (.int .i64 (A0 + X))).setCell ⟨w.heap.size + 1 + 1, 1, none⟩ (.int .i64 (A1 + Y))).setCell ⟨w.heap.size + 1 + 1, 2, none⟩ (.int .i64 (A2 + Z))) = w2 at *
        go_wp2_with fail
        go_roundw
        case rel => exact ⟨k + 1, by omega, by simp, QA, Q0, by rw [GO.out.1, GO.out.2.1, GO.out.2.2]; exact Q1, BQ⟩
        case measure => simp [intOf]; omega
    · obtain rfl : k = l.length := by omega
      generalize hA0 : sA (mX t1 t2) l l.length = A0 at *
      generalize hA1 : sA (mY t0 t2) l l.length = A1 at *
      generalize hA2 : sA (mZ t0 t1) l l.length = A2 at *
      obtain ⟨m0, m1, m2, -⟩ := R1.out.three
      obtain ⟨n0, n1, n2, f0, f1, f2⟩ := R0.out.three
      have l0 := R0.out.lt
      go_wp2_with fail
      clear m0 m1 m2 n0 n1 n2 f0 f1 f2
      have RV : Box (((wr.setCell ⟨w.heap.size + 1, 0, none⟩ (.int .i64 A0)).setCell ⟨w.heap.size + 1, 1, none⟩ (.int .i64 A1)).setCell ⟨w.heap.size + 1, 2, none⟩ (.int .i64 A2)) (w.heap.size + 1) #[.int .i64 A0, .int .i64 A1, .int .i64 A2] 91 := ((R0.out.set 0 _).set 1 _).set 2 _
      have BV : Below w.heap.size w (((wr.setCell ⟨w.heap.size + 1, 0, none⟩ (.int .i64 A0)).setCell ⟨w.heap.size + 1, 1, none⟩ (.int .i64 A1)).setCell ⟨w.heap.size + 1, 2, none⟩ (.int .i64 A2)) := by (repeat' (first | (with_reducible exact Below.refl _ _) | (with_reducible assumption) | (with_reducible refine Below.drew ?_) | (with_reducible refine below_drewN ?_ _) | (with_reducible refine Below.setCell ?_ ?_ _) | (with_reducible refine Below.alloc ?_ ?_ _) | go_size | omega))
      generalize (((wr.setCell ⟨w.heap.size + 1, 0, none⟩ (.int .i64 A0)).setCell ⟨w.heap.size + 1, 1, none⟩ (.int .i64 A1)).setCell ⟨w.heap.size + 1, 2, none⟩ (.int .i64 A2)) = v at *
      have s0 := RV.cell 0; have s1 := RV.cell 1; have s2 := RV.cell 2
      simp at s0 s1 s2
      go_wp2_with fail
      refine bodyPost_ret (v := vec A0 A1 A2) (by simp [results, Try.results47, go_sem, s0, s1, s2]) rfl ⟨by rw [hA0, hA1, hA2], BV⟩
end Go.Proofs.Ytahfliboanphkaa
