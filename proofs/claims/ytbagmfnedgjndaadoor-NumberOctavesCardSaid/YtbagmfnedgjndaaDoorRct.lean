/-
  The walk of the reference's Octave.
-/
import Derived.Test.YtbagmfnedgjndaaDoorOcr
namespace Go.Proofs.YtbagmfnedgjndaaDoor
open Go.RowKit
def octX (a b c : Int) : Int := sz a + 2 * sz b + 3 * sz c
def roctN (a b c d : Int) : Int := half (octP a b c d) (-(octX a b c / d + 1)) (octX a b c / d + 1)
theorem octX_bd {a b c : Int} (a0 : -400 ≤ a) (a1 : a ≤ 400) (b0 : -400 ≤ b) (b1 : b ≤ 400) (c0 : -400 ≤ c) (c1 : c ≤ 400) : 0 ≤ octX a b c ∧ octX a b c ≤ 2400 := by
  unfold octX sz; omega
theorem roctM {X d m : Int} (x0 : 0 ≤ X) (x1 : X ≤ 2400) (d0 : 1 ≤ d) (d1 : d ≤ 12) (h0 : -(X / d + 1) ≤ m) (h1 : m ≤ X / d + 1) : -2500 ≤ m * d ∧ m * d ≤ 2500 := by
  have e1 : X / d * d ≤ X := Int.ediv_mul_le _ (by omega)
  have e2 := Int.mul_le_mul_of_nonneg_right h1 (show 0 ≤ d by omega)
  have e3 := Int.mul_le_mul_of_nonneg_right h0 (show 0 ≤ d by omega)
  rw [Int.add_mul] at e2
  rw [Int.neg_mul, Int.add_mul] at e3
  omega
def RocRel (P : Int → Bool) (low high : Int) (a b c d : Int) (w : World) (v6 v7 : Value) (wr : World) : Prop :=
  ∃ l h : Int, low ≤ l ∧ h ≤ high ∧ l ≤ h ∧ v6 = .int .i64 l ∧ v7 = .int .i64 h ∧ half P l h = half P low high ∧
    Box wr w.heap.size #[.int .i64 a, .int .i64 b, .int .i64 c, .int .i64 d] 47 ∧ Box wr (w.heap.size + 1) #[.int .i64 0, .int .i64 0, .int .i64 0, .int .i64 0] 47 ∧ Below w.heap.size w wr
set_option maxRecDepth 100000 in
set_option maxHeartbeats 1600000 in
theorem roctave_any (a b c d : Int) (w : World) (hk : okP a b c d = true) :
    Calls Tryd.prog 44 #[.agg #[.int .i64 a, .int .i64 b, .int .i64 c, .int .i64 d]] w fun e w' =>
      e = .returned (.tuple #[.agg #[.int .i64 (pX (a - roctN a b c d * d) b c d (a - roctN a b c d * d)), .int .i64 (pX (a - roctN a b c d * d) b c d b), .int .i64 (pX (a - roctN a b c d * d) b c d c), .int .i64 (pX (a - roctN a b c d * d) b c d d)],
        .int .i64 (octI (pE (a - roctN a b c d * d) b c d) (roctN a b c d)), .int .i64 (pE (a - roctN a b c d * d) b c d)]) ∧ Below w.heap.size w w' := by
  obtain ⟨⟨d0, d1⟩, ⟨a0, a1⟩, ⟨b0, b1⟩, c0, c1⟩ := okP_bd hk
  obtain ⟨x0, x1⟩ := octX_bd a0 a1 b0 b1 c0 c1
  have q0 : 0 ≤ octX a b c / d := Int.ediv_nonneg (by omega) (by omega)
  have q1 : octX a b c / d ≤ 2400 := Int.le_trans (Int.ediv_le_self _ x0) x1
  have sa0 := sz_nonneg a; have sb0 := sz_nonneg b; have sc0 := sz_nonneg c
  have sa1 := sz_le a0 a1; have sb1 := sz_le b0 b1; have sc1 := sz_le c0 c1
  have ex : sz a + 2 * sz b + 3 * sz c = octX a b c := rfl
  have RO := Lib.hid (fun (m : Int) (u : World) (h0 : -(octX a b c / d + 1) ≤ m) (h1 : m ≤ octX a b c / d + 1) => rord2_any a b c d m u d0 d1 a0 a1 b0 b1 c0 c1 (by omega) (by omega) (by have := roctM x0 x1 d0 d1 h0 h1; omega) (by have := roctM x0 x1 d0 d1 h0 h1; omega))
  have SU := Lib.hid (fun (m : Int) (u : World) (h0 : -(octX a b c / d + 1) ≤ m) (h1 : m ≤ octX a b c / d + 1) => sum_any a b c d m 0 0 1 (-1) u (.inr rfl) d0 d1 (by omega) (by omega) (by omega) (by omega) (by omega) (by omega) (by omega) (by omega) (by omega) (by omega) (by omega) (by omega) (by omega) (by omega))
  have VA := Lib.hid (fun (m : Int) (u : World) (h0 : -(octX a b c / d + 1) ≤ m) (h1 : m ≤ octX a b c / d + 1) => rvalid_any (a - m * d) b c d u (by have := roctM x0 x1 d0 d1 h0 h1; omega) (by have := roctM x0 x1 d0 d1 h0 h1; omega) (by omega) (by omega) (by omega) (by omega) (by omega) (by omega))
  have HN := Lib.hid (show roctN a b c d = half (octP a b c d) (-(octX a b c / d + 1)) (octX a b c / d + 1) from rfl)
  generalize hM : octX a b c / d = M at *
  have HM := Lib.hid hM
  have HX := Lib.hid ex
  have w1 : IntKind.i64.wrap (2 * sz b) = 2 * sz b := IntWalk.i64_in _ (by omega)
  have w2 : IntKind.i64.wrap (sz a + 2 * sz b) = sz a + 2 * sz b := IntWalk.i64_in _ (by omega)
  have w3 : IntKind.i64.wrap (3 * sz c) = 3 * sz c := IntWalk.i64_in _ (by omega)
  have w4 : IntKind.i64.wrap (sz a + 2 * sz b + 3 * sz c) = sz a + 2 * sz b + 3 * sz c := IntWalk.i64_in _ (by omega)
  have w5 : wrap64 ((sz a + 2 * sz b + 3 * sz c) / d) = M := by rw [ex, hM]; exact IntWalk.wrap64_in _ ⟨by omega, by omega⟩
  have w6 : IntKind.i64.wrap (M + 1) = M + 1 := IntWalk.i64_in _ (by omega)
  have w7 : IntKind.i64.wrap (-(M + 1)) = -(M + 1) := IntWalk.i64_in _ (by omega)
  clear hM ex hk
  go_enter Tryd.func44, Tryd.ntmps44
  go_wp2_with fail
  have BP := Box.new w #[.int .i64 a, .int .i64 b, .int .i64 c, .int .i64 d] 47 rfl |>.alloc (.cells #[.int .i64 0, .int .i64 0, .int .i64 0, .int .i64 0] 47)
  have BR := Box.new (w.alloc (.cells #[.int .i64 a, .int .i64 b, .int .i64 c, .int .i64 d] 47)) #[.int .i64 0, .int .i64 0, .int .i64 0, .int .i64 0] 47 (n := w.heap.size + 1) (by simp)
  have BU : Below w.heap.size w ((w.alloc (.cells #[.int .i64 a, .int .i64 b, .int .i64 c, .int .i64 d] 47)).alloc (.cells #[.int .i64 0, .int .i64 0, .int .i64 0, .int .i64 0] 47)) := by go_grown
  generalize (w.alloc (.cells #[.int .i64 a, .int .i64 b, .int .i64 c, .int .i64 d] 47)).alloc (.cells #[.int .i64 0, .int .i64 0, .int .i64 0, .int .i64 0] 47) = u at *
  have HBP := Lib.hid BP; have HBR := Lib.hid BR; have HBU := Lib.hid BU
  obtain ⟨p0, p1, p2, p3, -⟩ := BP.four
  clear BP BR
  go_quiet ((go_at_call 56; refine (Abs_any _ _ (by omega) (by omega)).mono ?_; rintro e w9 ⟨rfl, rfl⟩; exact ⟨rfl, _, rfl⟩))
  have e5 : wrap64 ((sz a + 2 * sz b + 3 * sz c) / d + 1) = M + 1 := by rw [HX.out, HM.out]; exact IntWalk.wrap64_in _ ⟨by omega, by omega⟩
  rw [e5]
  clear e5 w1 w2 w3 w4 w5 w6
  generalize (sz a + 2 * sz b + 3 * sz c) / d = dead at *
  clear p0 p1 p2 p3 sa0 sb0 sc0 sa1 sb1 sc1 HX HM
  go_wp2_with fail
  clear w7
  go_loopw [6, 7] (RocRel (octP a b c d) (-(M + 1)) (M + 1) a b c d w) (fun l h _ => (intOf h - intOf l).toNat)
  case atStart => exact ⟨-(M + 1), M + 1, by omega, by omega, by omega, rfl, rfl, rfl, HBP.out.drewN _, HBR.out.drewN _, below_drewN HBU.out _⟩
  case round =>
    obtain ⟨l, h, hl, hh, hle, rfl, rfl, hf, hbp, hbr, hB⟩ := hrel
    have HF := Lib.hid hf; have HP := Lib.hid hbp; have HR := Lib.hid hbr
    clear hf hbp hbr HBP HBR HBU
    obtain ⟨p0, p1, p2, p3, -⟩ := HP.out.four
    have l0 := HP.out.lt
    have l1 := HR.out.lt
    by_cases hlt : l < h
    · have hmid : h - dn (h - l) 2 = l + (h - l + 1) / 2 := by unfold dn; omega
      go_wp2_with (go_at_call 77; refine (Floor_any _ _ _ (by omega) (by omega) (by omega) (by omega)).mono ?_; rintro e w9 ⟨rfl, rfl⟩)
      generalize hmm : l + (h - l + 1) / 2 = m at *
      have HMM := Lib.hid hmm
      have m0 : l < m := by omega
      have m1 : m ≤ h := by omega
      clear hmm hmid
      go_wp2_with fail
      refine (RO.out m _ (by omega) (by omega)).mono ?_
      rintro e w1 ⟨rfl, g1⟩
      have B1 : Below w.heap.size w w1 := below_via (by go_grown) g1
      have HP1 := Lib.hid (HP.out.keep g1); have HR1 := Lib.hid (HR.out.keep g1)
      clear g1 p0 p1 p2 p3
      have HS := Lib.hid (show octP a b c d m = decide (0 ≤ sgn (a - m * d) b c) from rfl)
      generalize sgn (a - m * d) b c = s at *
      by_cases hs : 0 ≤ s
      · have HH := Lib.hid (show half (octP a b c d) m h = half (octP a b c d) (-(M + 1)) (M + 1) by
          rw [← HF.out]; conv => rhs; rw [half]
          rw [if_pos hlt, HMM.out, if_pos (by rw [HS.out]; exact decide_eq_true hs)])
        go_wp2_with fail
        go_roundw
        case rel => exact ⟨m, h, by omega, hh, by omega, rfl, rfl, HH.out, HP1.out, HR1.out, B1⟩
        case measure => simp [intOf]; omega
      · have HH := Lib.hid (show half (octP a b c d) l (m - 1) = half (octP a b c d) (-(M + 1)) (M + 1) by
          rw [← HF.out]; conv => rhs; rw [half]
          rw [if_pos hlt, HMM.out, if_neg (by rw [HS.out]; simpa using hs)])
        go_wp2_with fail
        go_roundw
        case rel => exact ⟨l, m - 1, hl, by omega, by omega, rfl, rfl, HH.out, HP1.out, HR1.out, B1⟩
        case measure => simp [intOf]; omega
    · obtain rfl : l = h := by omega
      have hm : roctN a b c d = l := by rw [HN.out, ← HF.out, half, if_neg (by omega)]
      have HM2 := Lib.hid hm
      clear hm HF HN RO
      have S1 := SU.out l
      rw [show a * 1 + -1 * l * d = a - l * d by rw [Int.neg_one_mul, Int.neg_mul]; omega, show b * 1 + -1 * 0 * d = b by simp, show c * 1 + -1 * 0 * d = c by simp, show d * 1 = d by omega] at S1
      have HS1 := Lib.hid S1
      clear S1 SU
      go_wp2_with fail
      refine (HS1.out _ (by omega) (by omega)).mono ?_
      rintro e w1 ⟨rfl, g1⟩
      have B1 : Below w.heap.size w w1 := below_via (by go_grown) g1
      have HR1 := Lib.hid (HR.out.keep g1)
      clear g1 p0 p1 p2 p3
      go_wp2_with fail
      refine (VA.out l _ (by omega) (by omega)).mono ?_
      rintro e w2 ⟨rfl, g2⟩
      have B2 : Below w.heap.size w w2 := below_via B1 g2
      have HR2 := Lib.hid (HR1.out.keep g2)
      have lR := (HR1.out.keep g2).lt
      have HX2 := Lib.hid (Box.new w2 #[.int .i64 (pX (a - l * d) b c d (a - l * d)), .int .i64 (pX (a - l * d) b c d b), .int .i64 (pX (a - l * d) b c d c), .int .i64 (pX (a - l * d) b c d d)] 47 rfl)
      clear g2 VA
      obtain ⟨r0, r1, r2, r3, f0, f1, f2, f3⟩ := HR2.out.four
      obtain ⟨y0, y1, y2, y3, -⟩ := HX2.out.four
      by_cases hE0 : pE (a - l * d) b c d = 0
      · have hb0 : (pE (a - l * d) b c d != 0) = false := by simpa using hE0
        have EZ := Lib.hid hE0
        clear hE0
        go_wp2_with fail
        refine bodyPost_ret (v := .tuple #[.agg #[.int .i64 (pX (a - l * d) b c d (a - l * d)), .int .i64 (pX (a - l * d) b c d b), .int .i64 (pX (a - l * d) b c d c), .int .i64 (pX (a - l * d) b c d d)], .int .i64 (octI (pE (a - l * d) b c d) l), .int .i64 (pE (a - l * d) b c d)])
          (by simp [results, Tryd.results44, go_sem, octI, EZ.out, r0, r1, r2, r3, lR]) rfl ⟨by rw [HM2.out], ?_⟩
        repeat' (first | (with_reducible exact Below.refl _ _) | (with_reducible assumption) | (with_reducible refine Below.drew ?_) | (with_reducible refine below_drewN ?_ _) | (with_reducible refine Below.setCell ?_ ?_ _) | (with_reducible refine Below.alloc ?_ ?_ _) | go_size | omega)
      · have hb0 : (pE (a - l * d) b c d != 0) = true := by simpa using hE0
        have hno : okN (a - l * d) b c d = false := by
          cases ho : okN (a - l * d) b c d
          · rfl
          · exfalso; apply hE0; unfold pE; rw [if_pos ho]
        have ZX := Lib.hid (fun v : Int => show pX (a - l * d) b c d v = 0 by unfold pX; rw [hno]; rfl)
        have EZ := Lib.hid hE0
        clear hE0 hno
        go_wp2_with fail
        refine bodyPost_ret (v := .tuple #[.agg #[.int .i64 (pX (a - l * d) b c d (a - l * d)), .int .i64 (pX (a - l * d) b c d b), .int .i64 (pX (a - l * d) b c d c), .int .i64 (pX (a - l * d) b c d d)], .int .i64 (octI (pE (a - l * d) b c d) l), .int .i64 (pE (a - l * d) b c d)])
          (by simp [results, Tryd.results44, go_sem, octI, ZX.out, EZ.out, r0, r1, r2, r3, lR]) rfl ⟨by rw [HM2.out], ?_⟩
        repeat' (first | (with_reducible exact Below.refl _ _) | (with_reducible assumption) | (with_reducible refine Below.drew ?_) | (with_reducible refine below_drewN ?_ _) | (with_reducible refine Below.setCell ?_ ?_ _) | (with_reducible refine Below.alloc ?_ ?_ _) | go_size | omega)
end Go.Proofs.YtbagmfnedgjndaaDoor
