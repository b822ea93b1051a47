/-
  The walk of Enclose where its arguments are right.
-/
import Derived.Test.YtihpkiopeagogaaDoorEnc2
import Derived.Laws.EntriesVeiled
namespace Go.Proofs.YtihpkiopeagogaaDoor
open Go.RowKit

theorem enc_fin {a b c d t A B C D : Int} {u z : Nat} (hE : nE a b c d = 0) (hA : nX a b c d a = A) (hB : nX a b c d b = B) (hC : nX a b c d c = C) (hD : nX a b c d d = D) (ht0 : 1 ≤ t) (ht : t ≤ 1000000000)
    (hu : u = under A B C) (hz : z = over A B C * t.toNat ^ D.toNat) :
    (encHi u z D ≤ 1000000000000000 → encE a b c d t = 0 ∧ encL a b c d t = encLo u z D ∧ encH a b c d t = encHi u z D) ∧ (1000000000000000 < encHi u z D → encE a b c d t = 8 ∧ encL a b c d t = 0 ∧ encH a b c d t = 0) := by
  have h1 : encOk a b c d t = decide (encHi u z D ≤ 1000000000000000) := by unfold encOk; rw [hA, hB, hC, hD, ← hu, ← hz]
  have h2 : encE a b c d t = if encHi u z D ≤ 1000000000000000 then 0 else 8 := by
    unfold encE; rw [if_neg (by omega), if_neg (by omega), h1]; simp
  have h3 : encL a b c d t = if encE a b c d t = 0 then encLo u z D else 0 := by unfold encL; rw [hA, hB, hC, hD, ← hu, ← hz]
  have h4 : encH a b c d t = if encE a b c d t = 0 then encHi u z D else 0 := by unfold encH; rw [hA, hB, hC, hD, ← hu, ← hz]
  constructor
  · intro h; rw [if_pos h] at h2; rw [h3, h4, h2]; exact ⟨rfl, rfl, rfl⟩
  · intro h; rw [if_neg (by omega)] at h2; rw [h3, h4, h2]; exact ⟨rfl, rfl, rfl⟩
theorem encHi_zero {u z : Nat} {D : Int} (h : encLo u z D = 0) : encHi u z D = 1 := by unfold encHi encUp; rw [h]; rfl
theorem encHi_up {u z : Nat} {D L : Int} (h : encLo u z D = L) (hc : cmpE u z D L < 0) : encHi u z D = L + 1 := by
  unfold encHi encUp; rw [h, if_pos (by simp [hc])]
theorem encHi_same {u z : Nat} {D L : Int} (h : encLo u z D = L) (h0 : L ≠ 0) (hc : ¬ cmpE u z D L < 0) : encHi u z D = L := by
  unfold encHi encUp; rw [h, if_neg (by simp [h0]; omega)]

set_option maxRecDepth 100000 in
set_option maxHeartbeats 1600000 in
theorem enclose_good (a b c d t A B C D : Int) (w : World) (hp : Primes w) (hE : nE a b c d = 0) (hA : nX a b c d a = A) (hB : nX a b c d b = B) (hC : nX a b c d c = C) (hD : nX a b c d d = D) (ht0 : 1 ≤ t) (ht : t ≤ 1000000000)
    (hD0 : 1 ≤ D) (hD1 : D ≤ 12) (hA0 : -400 ≤ A) (hA1 : A ≤ 400) (hB0 : -400 ≤ B) (hB1 : B ≤ 400) (hC0 : -400 ≤ C) (hC1 : C ≤ 400) :
    Calls Tryd.prog 9 #[.agg #[.int .i64 a, .int .i64 b, .int .i64 c, .int .i64 d], .int .i64 t] w fun e w' =>
      e = .returned (.tuple #[.agg #[.int .i64 (encL a b c d t), .int .i64 (encH a b c d t)], .int .i64 (encE a b c d t)]) ∧ Below w.heap.size w w' := by
  have hN := fun u : World => normal_any a b c d u
  simp only [hE, hA, hB, hC, hD] at hN
  have HN := Lib.hid hN; have HP := Lib.hid hp
  have hfin : encOk a b c d t = decide (encHi (under A B C) (over A B C * t.toNat ^ D.toNat) D ≤ 1000000000000000) := by unfold encOk; rw [hA, hB, hC, hD]
  have HF := Lib.hid hfin
  have HA := Lib.hid hA; have HB := Lib.hid hB; have HC := Lib.hid hC; have HD := Lib.hid hD; have HE := Lib.hid hE
  clear hN hp hfin hA hB hC hD hE
  go_enter Tryd.func9, Tryd.ntmps9
  go_wp2_with fail
  refine (HN.out _).mono ?_
  rintro e w1 ⟨rfl, h1⟩
  have b1 : Below w.heap.size w w1 := below_via (by go_grown) h1
  have s1 := h1.size
  simp at s1
  have hP := ((Box.new w _ _ rfl).alloc _).keep h1
  have hR := (Box.new (w.alloc _) _ _ (n := w.heap.size + 1) (by simp)).keep h1
  obtain ⟨p0, p1, p2, p3, q0, q1, q2, q3⟩ := hP.four
  have HBP := Lib.hid hP; have HBR := Lib.hid hR
  clear h1 hP hR
  go_wp2_with fail
  refine (expsOf_any _ _ _ _ _).mono ?_
  rintro e w2 ⟨rfl, h2⟩
  have b2 : Below w.heap.size w w2 := below_via (by go_grown) h2
  have s2 := h2.size
  simp at s2
  have hP2 : Box w2 w.heap.size #[.int .i64 A, .int .i64 B, .int .i64 C, .int .i64 D] 40 := ((((HBP.out.set 0 _).set 1 _).set 2 _).set 3 _).keep h2
  have hR2 := ((((HBR.out.other ⟨w.heap.size, 0, none⟩ _ (by simp)).other ⟨w.heap.size, 1, none⟩ _ (by simp)).other ⟨w.heap.size, 2, none⟩ _ (by simp)).other ⟨w.heap.size, 3, none⟩ _ (by simp)).keep h2
  have HBP2 := Lib.hid hP2; have HBR2 := Lib.hid hR2
  clear h2 hP2 hR2 p0 p1 p2 p3 q0 q1 q2 q3 HBP HBR
  go_wp2_with fail
  refine (sides_any A B C _ (by omega) (by omega) (by omega) (by omega) (by omega) (by omega) (HP.out.keep b2)).mono ?_
  rintro e w3 ⟨g, cap, g', cap', xs, ys, rfl, o3, u3, nx, ny, vx, vy, lx, ly, h3⟩
  have b3 : Below w.heap.size w w3 := below_via (by go_grown) h3
  have s3 := h3.size
  have hP3 := HBP2.out.keep h3
  have hR3 := HBR2.out.keep h3
  have p3 : ∀ o, (w3.alloc o).cell? ⟨w.heap.size, 3, none⟩ = some (.int .i64 D) := fun o => (hP3.alloc o).cell 3
  have wlt : w.heap.size < w3.heap.size := hP3.lt
  have HBP3 := Lib.hid hP3; have HBR3 := Lib.hid hR3; have HO3 := Lib.hid o3; have HU3 := Lib.hid u3; have HNX := Lib.hid nx; have HNY := Lib.hid ny; have HVX := Lib.hid vx; have HVY := Lib.hid vy
  clear h3 hP3 hR3 HBP2 HBR2 o3 u3 nx ny vx vy
  have hw : IntKind.u64.wrap t = t := IntWalk.u64_in _ (by omega)
  go_wp2_with fail
  clear hw p3
  have hmf : ∀ (fn : Fn) (first cap : Array Value) (w : World), (Instr.makeFunc fn first cap).run Tryd.prog w = .ok (.func fn first cap) w := fun _ _ _ _ => rfl
  refine (pow_any _ g cap xs t D _ (HO3.out.alloc _) HNX.out ht0 (by omega) (by omega) (by omega) lx).mono ?_
  rintro e w4 ⟨g1, cap1, zs, rfl, o4, nz, vz, lz, h4⟩
  have b4 : Below w.heap.size w w4 := below_via (by go_grown) h4
  have s4 := h4.size
  simp at s4
  have hk4 : Kept ((w4.alloc (.cells #[.slice (some ⟨g1, 0, none⟩) zs.length cap1] 48)).alloc (.cells #[.func (.func 18) #[] #[.pointer (some ⟨w3.heap.size, 0, none⟩), .pointer (some ⟨w.heap.size, 0, none⟩), .pointer (some ⟨w4.heap.size, 0, none⟩)]] 57))
      0 w3.heap.size w.heap.size w4.heap.size ys zs g' cap' g1 cap1 A B C D :=
    ⟨(((Box.new w3 _ _ rfl).keep h4).alloc _).alloc _, (((HBP3.out.alloc _).keep h4).alloc _).alloc _, (Box.new w4 _ _ rfl).alloc _,
      own_base_mono (((own_below (HU3.out.alloc _) h4 (by have := (own_base HU3.out).2; simp; omega)).alloc _).alloc _) (Nat.zero_le _), own_base_mono ((o4.alloc _).alloc _) (Nat.zero_le _)⟩
  have hc4 := Box.new (w4.alloc (.cells #[.slice (some ⟨g1, 0, none⟩) zs.length cap1] 48)) #[.func (.func 18) #[] #[.pointer (some ⟨w3.heap.size, 0, none⟩), .pointer (some ⟨w.heap.size, 0, none⟩), .pointer (some ⟨w4.heap.size, 0, none⟩)]] 57 (n := w4.heap.size + 1) (by simp)
  have hR4 := (((HBR3.out.alloc _).keep h4).alloc (.cells #[.slice (some ⟨g1, 0, none⟩) zs.length cap1] 48)).alloc (.cells #[.func (.func 18) #[] #[.pointer (some ⟨w3.heap.size, 0, none⟩), .pointer (some ⟨w.heap.size, 0, none⟩), .pointer (some ⟨w4.heap.size, 0, none⟩)]] 57)
  have HK4 := Lib.hid hk4; have HC4 := Lib.hid hc4; have HR4 := Lib.hid hR4; have HNZ := Lib.hid nz; have HVZ := Lib.hid vz
  have lz' : zs.length ≤ 1099511627776 := by omega
  clear hk4 hc4 hR4 nz vz lz o4 h4
  go_wp2_with fail
  refine (greatest_any 21 #[.pointer (some ⟨w4.heap.size + 1, 0, none⟩)] (leE (Nats.val ys) (Nats.val zs) D) 0 1000000000000000 _ (by omega) (by omega) (by omega) enters21
    (Lib.hid fun n wr hlo hhi hb => (fits_any (w4.heap.size + 1) 0 w3.heap.size w.heap.size w4.heap.size ys zs g' cap' g1 cap1 A B C D n wr (HK4.out.keep hb) HNY.out HNZ.out (HC4.out.keep hb) ly lz' (by omega) (by omega) (by omega) (by omega)).mono
      fun e w' ⟨he, hb'⟩ => ⟨he, hb.trans (hb'.mono hb.size)⟩)).mono ?_
  rintro e w5 ⟨rfl, h5⟩
  have b5 : Below w.heap.size w w5 := below_via (by go_grown) h5
  have hk5 := HK4.out.keep h5
  have hc5 := HC4.out.keep h5
  have hR5 := HR4.out.keep h5
  obtain ⟨c0, _⟩ := hc5.one
  obtain ⟨r0, r1, q0, q1⟩ := hR5.two
  have hbd := half_bd (leE (Nats.val ys) (Nats.val zs) D) 0 1000000000000000 (by omega)
  have hlo : encLo (Nats.val ys) (Nats.val zs) D = half (leE (Nats.val ys) (Nats.val zs) D) 0 1000000000000000 := rfl
  generalize half (leE (Nats.val ys) (Nats.val zs) D) 0 1000000000000000 = L at *
  have hbd0 := hbd.1
  have hbd1 := hbd.2
  have HK5 := Lib.hid hk5; have HR5 := Lib.hid hR5; have HLO := Lib.hid hlo
  clear hk5 hc5 hR5 hbd hlo h5
  have hfin := enc_fin HE.out HA.out HB.out HC.out HD.out ht0 ht HVY.out (HVZ.out.trans (by rw [HVX.out]))
  have HFIN := Lib.hid hfin
  clear hfin
  by_cases hz : L = 0
  · subst hz
    have f := HFIN.out.1 (by rw [encHi_zero HLO.out]; omega)
    rw [encHi_zero HLO.out, HLO.out] at f
    have F1 := Lib.hid f.1; have F2 := Lib.hid f.2.1; have F3 := Lib.hid f.2.2
    clear f
    go_wp2_with fail
    refine bodyPost_ret (v := .tuple #[.agg #[.int .i64 (encL a b c d t), .int .i64 (encH a b c d t)], .int .i64 (encE a b c d t)])
      (by simp [results, Tryd.results9, go_sem, r0, r1, F1.out, F2.out, F3.out]) rfl ⟨rfl, ?_⟩
    go_grown
  · have hz' : (L == 0) = false := by simpa using hz
    go_wp2_with fail
    refine (against_any 0 w3.heap.size w.heap.size w4.heap.size ys zs g' cap' g1 cap1 A B C D L _ HK5.out HNY.out HNZ.out ly lz' (by omega) (by omega) (by omega) (by omega) (by omega)).mono ?_
    rintro e w6 ⟨rfl, h6⟩
    have b6 : Below w.heap.size w w6 := below_via (by go_grown) h6
    obtain ⟨r0, r1, q0, q1⟩ := (HR5.out.keep h6).two
    clear h6
    by_cases hc : cmpE (Nats.val ys) (Nats.val zs) D L < 0
    · by_cases hm : 1000000000000000 ≤ L
      · have f := HFIN.out.2 (by rw [encHi_up HLO.out hc]; omega)
        have F1 := Lib.hid f.1; have F2 := Lib.hid f.2.1; have F3 := Lib.hid f.2.2
        clear f
        go_wp2_with fail
        refine bodyPost_ret (v := .tuple #[.agg #[.int .i64 (encL a b c d t), .int .i64 (encH a b c d t)], .int .i64 (encE a b c d t)])
          (by simp [results, Tryd.results9, go_sem, r0, r1, F1.out, F2.out, F3.out]) rfl ⟨rfl, ?_⟩
        go_grown
      · have hlt : L < 1000000000000000 := by omega
        have hlt2 : L + 1 ≤ 1000000000000000 := by omega
        have f := HFIN.out.1 (by rw [encHi_up HLO.out hc]; omega)
        rw [encHi_up HLO.out hc, HLO.out] at f
        have F1 := Lib.hid f.1; have F2 := Lib.hid f.2.1; have F3 := Lib.hid f.2.2
        clear f
        go_wp2_with fail
        refine bodyPost_ret (v := .tuple #[.agg #[.int .i64 (encL a b c d t), .int .i64 (encH a b c d t)], .int .i64 (encE a b c d t)])
          (by simp [results, Tryd.results9, go_sem, r0, r1, F1.out, F2.out, F3.out]) rfl ⟨rfl, ?_⟩
        go_grown
    · have f := HFIN.out.1 (by rw [encHi_same HLO.out hz hc]; omega)
      rw [encHi_same HLO.out hz hc, HLO.out] at f
      have F1 := Lib.hid f.1; have F2 := Lib.hid f.2.1; have F3 := Lib.hid f.2.2
      clear f
      go_wp2_with fail
      refine bodyPost_ret (v := .tuple #[.agg #[.int .i64 (encL a b c d t), .int .i64 (encH a b c d t)], .int .i64 (encE a b c d t)])
        (by simp [results, Tryd.results9, go_sem, r0, r1, F1.out, F2.out, F3.out]) rfl ⟨rfl, ?_⟩
      go_grown

/-- ENCLOSE, whatever the arguments -/
theorem enclose_any (a b c d t : Int) (w : World) (hp : Primes w) :
    Calls Tryd.prog 9 #[.agg #[.int .i64 a, .int .i64 b, .int .i64 c, .int .i64 d], .int .i64 t] w fun e w' =>
      e = .returned (.tuple #[.agg #[.int .i64 (encL a b c d t), .int .i64 (encH a b c d t)], .int .i64 (encE a b c d t)]) ∧ Below w.heap.size w w' := by
  by_cases h : nE a b c d ≠ 0 ∨ ¬ (1 ≤ t ∧ t ≤ 1000000000)
  · exact enclose_bad a b c d t w h
  · have h0 : nE a b c d = 0 := by omega
    obtain ⟨h1, h2, h3, h4⟩ := nE_zero h0
    exact enclose_good a b c d t _ _ _ _ w hp h0 rfl rfl rfl rfl (by omega) (by omega) h1.1 h1.2 h2.1 h2.2 h3.1 h3.2 h4.1 h4.2
end Go.Proofs.YtihpkiopeagogaaDoor
