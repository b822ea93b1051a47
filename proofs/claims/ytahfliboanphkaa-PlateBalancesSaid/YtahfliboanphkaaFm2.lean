/-
  Moments of forces: the reference.
-/
import Derived.Test.YtahfliboanphkaaFmo
import Derived.Deep.RegionWith
import Derived.Deep.DrawnRows
namespace Go.Proofs.Ytahfliboanphkaa
open Go.RowKit
attribute [local go_sem ↓] Go.wp_at_zero Go.wp_at_succ
set_option maxRecDepth 100000 in
set_option maxHeartbeats 12800000 in
theorem rmoment_any (l : List Pf) (t0 t1 t2 : Int) (a : Option Addr) (cap : Nat) (w : World) (ho : okL l) (ht : Big 1000000 t0 t1 t2) (hp : PlAt w a l) :
    Calls Try.prog 16 #[.slice a l.length cap, vec t0 t1 t2] w fun e w' => e = .returned (vec (sA (mX t1 t2) l l.length) (sA (mY t0 t2) l l.length) (sA (mZ t0 t1) l l.length)) ∧ Below w.heap.size w w' := by
  have HP := Lib.hid hp; have HO := Lib.hid ho; have HT := Lib.hid ht
  have hl := ho.1
  clear hp ho ht
  go_enter Try.func16, Try.ntmps16
  go_wp2_with fail
  go_loopw [6] (MoRel l t0 t1 t2 w.heap.size (w.heap.size + 1) (w.heap.size + 1 + 1) 23 23 w) (fun i _ => l.length - (intOf i).toNat)
  case atStart => exact ⟨0, by omega, rfl, ((Box.new _ _ _ rfl).alloc _).alloc _, (Box.new _ _ _ (by simp)).alloc _, Box.new _ _ _ (by simp), by go_grown⟩
  case round =>
    obtain ⟨k, hk, rfl, hba, hb0, hb1, hB⟩ := hrel
    have RA := Lib.hid hba; have R0 := Lib.hid hb0; have R1 := Lib.hid hb1; clear hba hb0 hb1
    have zr := hB.size
    have l1 := R1.out.lt
    by_cases hkl : k < l.length
    · rcases HP.out.keep hB with h0 | ⟨b, o, rfl, hbl, hc⟩
      · rw [h0] at hkl; simp at hkl
      obtain ⟨c0, c1, c2, c3, c4, c5⟩ := hc k hkl
      clear hc
      rcases hlk : l[k] with ⟨x, y, z, p, q, r⟩
      rw [hlk] at c0 c1 c2 c3 c4 c5
      have GO := Lib.hid (And.intro (sA_go (g := mX t1 t2) hkl hlk) (And.intro (sA_go (g := mY t0 t2) hkl hlk) (sA_go (g := mZ t0 t1) hkl hlk)))
      have hbad := HO.out.2 _ (List.getElem_mem hkl)
      rw [hlk] at hbad
      have harm := arm_bd hbad HT.out
      have hfor := (badP_no hbad).2
      have hat := (badP_no hbad).1
      have hmb := m_bd hbad HT.out
      dsimp only at c0 c1 c2 c3 c4 c5 harm hfor hat GO
      have C1' := fun (u : World) => rminus_any x y z t0 t1 t2 u (hat.up (by omega)) (HT.out.up (by omega))
      simp only [Int.sub_eq_add_neg] at C1'
      have C1 := Lib.hid C1'; clear C1'
      have C2 := Lib.hid (fun u => rcross_any (x + -t0) (y + -t1) (z + -t2) p q r u harm hfor)
      have C3 := Lib.hid (fun u => rplus_any (sA (mX t1 t2) l k) (sA (mY t0 t2) l k) (sA (mZ t0 t1) l k) (mX t1 t2 ⟨x, y, z, p, q, r⟩) (mY t0 t2 ⟨x, y, z, p, q, r⟩) (mZ t0 t1 ⟨x, y, z, p, q, r⟩) u ((mom_bd HO.out HT.out hk).up (by omega)) (hmb.up (by omega)))
      rw [show (y + -t1) * r - (z + -t2) * q = mX t1 t2 ⟨x, y, z, p, q, r⟩ from rfl, show (z + -t2) * p - (x + -t0) * r = mY t0 t2 ⟨x, y, z, p, q, r⟩ from rfl, show (x + -t0) * q - (y + -t1) * p = mZ t0 t1 ⟨x, y, z, p, q, r⟩ from rfl] at C2
      clear hlk harm hfor hat hbad hmb
      generalize sA (mX t1 t2) l k = A0 at *
      generalize sA (mY t0 t2) l k = A1 at *
      generalize sA (mZ t0 t1) l k = A2 at *
      generalize mX t1 t2 ⟨x, y, z, p, q, r⟩ = X at *
      generalize mY t0 t2 ⟨x, y, z, p, q, r⟩ = Y at *
      generalize mZ t0 t1 ⟨x, y, z, p, q, r⟩ = Z at *
      generalize x + -t0 = dx at *
      generalize y + -t1 = dy at *
      generalize z + -t2 = dz at *
      obtain ⟨n0, n1, n2, -⟩ := RA.out.three
      obtain ⟨m0, m1, m2, -⟩ := R1.out.three
      have la := RA.out.lt
      go_wp2_with fail
      have KC := Lib.hid (fun (w' : World) (h : Below wr.heap.size wr w') => show (w'.cell? ⟨b, o + k * 6 + 3, none⟩ = some (.int .i64 p) ∧ w'.cell? ⟨b, o + k * 6 + 4, none⟩ = some (.int .i64 q) ∧ w'.cell? ⟨b, o + k * 6 + 5, none⟩ = some (.int .i64 r)) from ⟨((bcell h).1 b _ hbl).trans c3, ((bcell h).1 b _ hbl).trans c4, ((bcell h).1 b _ hbl).trans c5⟩)
      go_region_with (first | (go_at_call 14; refine (C1.out _).mono ?_; rintro e w7 ⟨rfl, h7⟩; have hB7 : Below wr.heap.size wr w7 := below_via (by (repeat' (first | (with_reducible exact Below.refl _ _) | (with_reducible assumption) | (with_reducible refine Below.drew ?_) | (with_reducible refine below_drewN ?_ _) | (with_reducible refine Below.setCell ?_ ?_ _) | (with_reducible refine Below.alloc ?_ ?_ _) | go_size | omega))) h7; clear h7; have hz7 := hB7.size; obtain ⟨g0, g1, g2, -⟩ := (R1.out.keep hB7).three; have lg := (R1.out.keep hB7).lt; obtain ⟨d3, d4, d5⟩ := KC.out w7 hB7) | (go_at_call 50; refine (C2.out _).mono ?_; rintro e w8 ⟨rfl, h8⟩; have hB8 : Below wr.heap.size wr w8 := below_via (by (repeat' (first | (with_reducible exact Below.refl _ _) | (with_reducible assumption) | (with_reducible refine Below.drew ?_) | (with_reducible refine below_drewN ?_ _) | (with_reducible refine Below.setCell ?_ ?_ _) | (with_reducible refine Below.alloc ?_ ?_ _) | go_size | omega))) h8; clear h8; have hz8 := hB8.size; obtain ⟨i0, i1, i2, -⟩ := (R1.out.keep hB8).three; have ln := (R1.out.keep hB8).lt) | (go_at_call 49; refine (C3.out _).mono ?_; rintro e w9 ⟨rfl, h9⟩; have hB9 : Below wr.heap.size wr w9 := below_via (by (repeat' (first | (with_reducible exact Below.refl _ _) | (with_reducible assumption) | (with_reducible refine Below.drew ?_) | (with_reducible refine below_drewN ?_ _) | (with_reducible refine Below.setCell ?_ ?_ _) | (with_reducible refine Below.alloc ?_ ?_ _) | go_size | omega))) h9; clear h9; have hz9 := hB9.size; obtain ⟨o0, o1, o2, f0, f1, f2⟩ := (R1.out.keep hB9).three; have lo := (R1.out.keep hB9).lt))
      all_goals
        clear o0 o1 o2 f0 f1 f2 m0 m1 m2 n0 n1 n2 c0 c1 c2 c3 c4 c5
        have QA := (RA.out.keep hB9).other ⟨w.heap.size + 1 + 1, 0, none⟩ (.int .i64 (A0 + X)) (by first | (simp; done) | (simp; omega)) |>.other ⟨w.heap.size + 1 + 1, 1, none⟩ (.int .i64 (A1 + Y)) (by first | (simp; done) | (simp; omega)) |>.other ⟨w.heap.size + 1 + 1, 2, none⟩ (.int .i64 (A2 + Z)) (by first | (simp; done) | (simp; omega))
        have Q0 := (R0.out.keep hB9).other ⟨w.heap.size + 1 + 1, 0, none⟩ (.int .i64 (A0 + X)) (by first | (simp; done) | (simp; omega)) |>.other ⟨w.heap.size + 1 + 1, 1, none⟩ (.int .i64 (A1 + Y)) (by first | (simp; done) | (simp; omega)) |>.other ⟨w.heap.size + 1 + 1, 2, none⟩ (.int .i64 (A2 + Z)) (by first | (simp; done) | (simp; omega))
        have Q1 : Box (((w9.setCell ⟨w.heap.size + 1 + 1, 0, none⟩ (.int .i64 (A0 + X))).setCell ⟨w.heap.size + 1 + 1, 1, none⟩ (.int .i64 (A1 + Y))).setCell ⟨w.heap.size + 1 + 1, 2, none⟩ (.int .i64 (A2 + Z))) (w.heap.size + 1 + 1) #[.int .i64 (A0 + X), .int .i64 (A1 + Y), .int .i64 (A2 + Z)] 23 := (((R1.out.keep hB9).set 0 _).set 1 _).set 2 _
        have BQ9 : Below w.heap.size w w9 := below_via hB hB9
        have BQ : Below w.heap.size w (((w9.setCell ⟨w.heap.size + 1 + 1, 0, none⟩ (.int .i64 (A0 + X))).setCell ⟨w.heap.size + 1 + 1, 1, none⟩ (.int .i64 (A1 + Y))).setCell ⟨w.heap.size + 1 + 1, 2, none⟩ (.int .i64 (A2 + Z))) := by (repeat' (first | (with_reducible exact Below.refl _ _) | (with_reducible assumption) | (with_reducible refine Below.drew ?_) | (with_reducible refine below_drewN ?_ _) | (with_reducible refine Below.setCell ?_ ?_ _) | (with_reducible refine Below.alloc ?_ ?_ _) | go_size | omega))
        generalize (((w9.setCell ⟨w.heap.size + 1 + 1, 0, none⟩ (.int .i64 (A0 + X))).setCell ⟨w.heap.size + 1 + 1, 1, none⟩ (.int .i64 (A1 + Y))).setCell ⟨w.heap.size + 1 + 1, 2, none⟩ (.int .i64 (A2 + Z))) = w2 at *
        go_wp2_with fail
        go_roundw
        case rel => exact ⟨k + 1, by omega, by simp, QA, Q0, by rw [GO.out.1, GO.out.2.1, GO.out.2.2]; exact Q1, BQ⟩
        case measure => simp [intOf]; omega
    · obtain rfl : k = l.length := by omega
      generalize hA0 : sA (mX t1 t2) l l.length = A0 at *
      generalize hA1 : sA (mY t0 t2) l l.length = A1 at *
      generalize hA2 : sA (mZ t0 t1) l l.length = A2 at *
      obtain ⟨m0, m1, m2, -⟩ := R1.out.three
      obtain ⟨n0, n1, n2, f0, f1, f2⟩ := R0.out.three
      have l0 := R0.out.lt
      go_wp2_with fail
      clear m0 m1 m2 n0 n1 n2 f0 f1 f2
      have RV : Box (((wr.setCell ⟨w.heap.size + 1, 0, none⟩ (.int .i64 A0)).setCell ⟨w.heap.size + 1, 1, none⟩ (.int .i64 A1)).setCell ⟨w.heap.size + 1, 2, none⟩ (.int .i64 A2)) (w.heap.size + 1) #[.int .i64 A0, .int .i64 A1, .int .i64 A2] 23 := ((R0.out.set 0 _).set 1 _).set 2 _
      have BV : Below w.heap.size w (((wr.setCell ⟨w.heap.size + 1, 0, none⟩ (.int .i64 A0)).setCell ⟨w.heap.size + 1, 1, none⟩ (.int .i64 A1)).setCell ⟨w.heap.size + 1, 2, none⟩ (.int .i64 A2)) := by (repeat' (first | (with_reducible exact Below.refl _ _) | (with_reducible assumption) | (with_reducible refine Below.drew ?_) | (with_reducible refine below_drewN ?_ _) | (with_reducible refine Below.setCell ?_ ?_ _) | (with_reducible refine Below.alloc ?_ ?_ _) | go_size | omega))
      generalize (((wr.setCell ⟨w.heap.size + 1, 0, none⟩ (.int .i64 A0)).setCell ⟨w.heap.size + 1, 1, none⟩ (.int .i64 A1)).setCell ⟨w.heap.size + 1, 2, none⟩ (.int .i64 A2)) = v at *
      have s0 := RV.cell 0; have s1 := RV.cell 1; have s2 := RV.cell 2
      simp at s0 s1 s2
      go_wp2_with fail
      refine bodyPost_ret (v := vec A0 A1 A2) (by simp [results, Try.results16, go_sem, s0, s1, s2]) rfl ⟨by rw [hA0, hA1, hA2], BV⟩
end Go.Proofs.Ytahfliboanphkaa
