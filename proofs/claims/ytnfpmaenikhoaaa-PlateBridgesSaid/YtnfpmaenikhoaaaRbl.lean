/-
  Bridges: the reference's sum of the loads.
-/
import Derived.Test.YtnfpmaenikhoaaaBrl
import Derived.Test.YtnfpmaenikhoaaaRbe
import Derived.StillTailTactics
namespace Go.Proofs.Ytnfpmaenikhoaaa
open Go.RowKit
set_option maxRecDepth 100000 in
set_option maxHeartbeats 1600000 in
theorem isTen_any (lo hi : Int) (w : World) :
    Calls Try.prog 91 #[rng lo hi] w fun e w' => e = .returned (.bool (okT (lo, hi))) ∧ Below w.heap.size w w' := by
  by_cases h1 : 0 ≤ lo ∧ lo ≤ hi <;> by_cases h2 : hi ≤ 10000000
  all_goals
    have F := Lib.hid (show okT (lo, hi) = (inR lo 0 hi && decide (hi ≤ 10000000)) by unfold okT inR; rw [Bool.eq_iff_iff]; simp; omega)
    have hr : inR lo 0 hi = decide (0 ≤ lo ∧ lo ≤ hi) := rfl
    simp only [h1, decide_true, decide_false] at hr
    go_enter Try.func91, Try.ntmps91
    go_wp2_with (go_at_call 25; refine (Within_any _ _ _ _).mono ?_; rintro e w' ⟨rfl, rfl⟩)
    go_ret
    exact ⟨ret_bool (by rw [F.out, hr]; simp; try omega), by (repeat' (first | (with_reducible exact Below.refl _ _) | (with_reducible assumption) | (with_reducible refine Below.drew ?_) | (with_reducible refine below_drewN ?_ _) | (with_reducible refine Below.setCell ?_ ?_ _) | (with_reducible refine Below.alloc ?_ ?_ _) | go_size | omega))⟩
set_option maxRecDepth 100000 in
set_option maxHeartbeats 1600000 in
theorem rbload_big (l : List Br) (P : List (Int × Int)) (a a2 : Option Addr) (cap cap2 : Nat) (w : World) (hl : l.length ≤ 9223372036854775807) (h1 : (300 : Int) < l.length) :
    Calls Try.prog 56 #[.slice a l.length cap, .slice a2 P.length cap2] w fun e w' => e = .returned (.tuple #[rng 0 0, .int .i64 8]) ∧ Below w.heap.size w w' := by
  go_enter Try.func56, Try.ntmps56
  have R1 := Lib.hid (Box.new w #[.int .i64 0, .int .i64 0] 90 (n := w.heap.size) rfl)
  have B1 : Below w.heap.size w (w.alloc (.cells #[.int .i64 0, .int .i64 0] 90)) := by (repeat' (first | (with_reducible exact Below.refl _ _) | (with_reducible assumption) | (with_reducible refine Below.drew ?_) | (with_reducible refine below_drewN ?_ _) | (with_reducible refine Below.setCell ?_ ?_ _) | (with_reducible refine Below.alloc ?_ ?_ _) | go_size | omega))
  obtain ⟨n0, n1, f0, f1⟩ := R1.out.two
  have l0 := R1.out.lt
  go_wp2_with fail
  clear n0 n1 f0 f1
  have RV : Box (w.alloc (.cells #[.int .i64 0, .int .i64 0] 90)) (w.heap.size) #[.int .i64 0, .int .i64 0] 90 := R1.out
  have BV : Below w.heap.size w (w.alloc (.cells #[.int .i64 0, .int .i64 0] 90)) := by (repeat' (first | (with_reducible exact Below.refl _ _) | (with_reducible assumption) | (with_reducible refine Below.drew ?_) | (with_reducible refine below_drewN ?_ _) | (with_reducible refine Below.setCell ?_ ?_ _) | (with_reducible refine Below.alloc ?_ ?_ _) | go_size | omega))
  generalize (w.alloc (.cells #[.int .i64 0, .int .i64 0] 90)) = v at *
  have s0 := RV.cell 0
  have s1 := RV.cell 1
  simp at s0 s1
  go_wp2_with fail
  refine bodyPost_ret (v := .tuple #[rng 0 0, .int .i64 8]) (by simp [results, Try.results56, go_sem, s0, s1]) rfl ⟨rfl, BV⟩
set_option maxRecDepth 100000 in
set_option maxHeartbeats 1600000 in
theorem rbload_shape (l : List Br) (P : List (Int × Int)) (a a2 : Option Addr) (cap cap2 : Nat) (w : World) (hl : P.length ≤ 9223372036854775807) (h1 : (l.length : Int) ≤ 300) (h2 : l.length ≠ P.length) :
    Calls Try.prog 56 #[.slice a l.length cap, .slice a2 P.length cap2] w fun e w' => e = .returned (.tuple #[rng 0 0, .int .i64 10]) ∧ Below w.heap.size w w' := by
  have hne : ((l.length : Int) == (P.length : Int)) = false := by simp; omega
  go_enter Try.func56, Try.ntmps56
  have R1 := Lib.hid (Box.new w #[.int .i64 0, .int .i64 0] 90 (n := w.heap.size) rfl)
  have B1 : Below w.heap.size w (w.alloc (.cells #[.int .i64 0, .int .i64 0] 90)) := by (repeat' (first | (with_reducible exact Below.refl _ _) | (with_reducible assumption) | (with_reducible refine Below.drew ?_) | (with_reducible refine below_drewN ?_ _) | (with_reducible refine Below.setCell ?_ ?_ _) | (with_reducible refine Below.alloc ?_ ?_ _) | go_size | omega))
  obtain ⟨n0, n1, f0, f1⟩ := R1.out.two
  have l0 := R1.out.lt
  go_wp2_with fail
  clear n0 n1 f0 f1
  have RV : Box (w.alloc (.cells #[.int .i64 0, .int .i64 0] 90)) (w.heap.size) #[.int .i64 0, .int .i64 0] 90 := R1.out
  have BV : Below w.heap.size w (w.alloc (.cells #[.int .i64 0, .int .i64 0] 90)) := by (repeat' (first | (with_reducible exact Below.refl _ _) | (with_reducible assumption) | (with_reducible refine Below.drew ?_) | (with_reducible refine below_drewN ?_ _) | (with_reducible refine Below.setCell ?_ ?_ _) | (with_reducible refine Below.alloc ?_ ?_ _) | go_size | omega))
  generalize (w.alloc (.cells #[.int .i64 0, .int .i64 0] 90)) = v at *
  have s0 := RV.cell 0
  have s1 := RV.cell 1
  simp at s0 s1
  go_wp2_with fail
  refine bodyPost_ret (v := .tuple #[rng 0 0, .int .i64 10]) (by simp [results, Try.results56, go_sem, s0, s1]) rfl ⟨rfl, BV⟩
set_option maxRecDepth 100000 in
set_option maxHeartbeats 3200000 in
theorem rbload_any (l : List Br) (P : List (Int × Int)) (a a2 : Option Addr) (cap cap2 : Nat) (w : World) (V0 V1 E : Int) (h20 : l.length ≤ 20) (h2 : P.length = l.length) (hp : BrAt w a l) (hq : LdAt w a2 P) (hE : brE l P l.length = E) (hV0 : V0 = if E = 0 then sB bLo l P l.length else 0) (hV1 : V1 = if E = 0 then sB bHi l P l.length else 0) :
    Calls Try.prog 56 #[.slice a l.length cap, .slice a2 l.length cap2] w fun e w' => e = .returned (.tuple #[rng V0 V1, .int .i64 E]) ∧ Below w.heap.size w w' := by
  have HP := Lib.hid hp; have HQ := Lib.hid hq; have HE := Lib.hid hE; have HV0 := Lib.hid hV0; have HV1 := Lib.hid hV1; have H2 := Lib.hid h2
  clear hp hq hE hV0 hV1 h2
  go_enter Try.func56, Try.ntmps56
  go_wp2_with fail
  go_loopw [7] (BlRel l P w) (fun i _ => l.length - (intOf i).toNat)
  case atStart => exact ⟨0, by omega, rfl, rfl, (Box.new _ _ _ rfl).alloc _, Box.new _ _ _ (by simp), by (repeat' (first | (with_reducible exact Below.refl _ _) | (with_reducible assumption) | (with_reducible refine Below.drew ?_) | (with_reducible refine below_drewN ?_ _) | (with_reducible refine Below.setCell ?_ ?_ _) | (with_reducible refine Below.alloc ?_ ?_ _) | go_size | omega))⟩
  case round =>
    obtain ⟨k, hk, rfl, he, hb0, hb1, hB⟩ := hrel
    have R0 := Lib.hid hb0; have R1 := Lib.hid hb1; have HEk := Lib.hid he; clear hb0 hb1 he
    have zr := hB.size
    have l0 := R0.out.lt; have l1 := R1.out.lt
    by_cases hkl : k < l.length
    · rcases HP.out with h0 | ⟨b0, o0, rfl, hbl, hc⟩
      · rw [h0] at hkl; simp at hkl
      have hkp : k < P.length := by have := H2.out; omega
      rcases HQ.out with h0 | ⟨b1, o1, rfl, hbl1, hd⟩
      · rw [h0] at hkp; simp at hkp
      obtain ⟨c0, c1, c2, c3, c4⟩ := hc k hkl
      obtain ⟨d0, d1⟩ := hd k hkp
      clear hc hd
      have GO := Lib.hid (fun (x : Br) (t : Int × Int) (hx : l[k] = x) (ht : P[k] = t) => And.intro (sB_go (g := bLo) hkl hkp hx ht) (sB_go (g := bHi) hkl hkp hx ht))
      have GE := Lib.hid (brE_go hkl hkp HEk.out)
      have s0 := sB_bd (g := bLo) (l := l) (T := P) (M := 120000000000000000) (k := k) (by omega) (by omega) HEk.out (fun x t h h' => (b_bd h h').1) (by omega)
      have s1 := sB_bd (g := bHi) (l := l) (T := P) (M := 120000000000000000) (k := k) (by omega) (by omega) HEk.out (fun x t h h' => (b_bd h h').2) (by omega)
      rcases hlk : l[k] with ⟨f, b, kk, aa, h⟩
      rcases hpk : P[k] with ⟨lo, hi⟩
      rw [hlk] at c0 c1 c2 c3 c4 GE
      rw [hpk] at d0 d1 GE
      have GO' := Lib.hid (GO.out _ _ hlk hpk)
      clear hlk hpk GO
      dsimp only at c0 c1 c2 c3 c4 d0 d1
      generalize hS0 : sB bLo l P k = S0 at *
      generalize hS1 : sB bHi l P k = S1 at *
      clear hS0 hS1
      obtain ⟨s00, s01⟩ := s0
      obtain ⟨s10, s11⟩ := s1
      have KK := Lib.hid (fun (w' : World) (hw : Below w.heap.size w w') => show (w'.cell? ⟨b0, o0 + k * 5, none⟩ = some (.int .i64 f) ∧ w'.cell? ⟨b0, o0 + k * 5 + 1, none⟩ = some (.int .i64 b) ∧ w'.cell? ⟨b0, o0 + k * 5 + 2, none⟩ = some (.int .i64 kk) ∧ w'.cell? ⟨b0, o0 + k * 5 + 3, none⟩ = some (.int .i64 aa) ∧ w'.cell? ⟨b0, o0 + k * 5 + 4, none⟩ = some (.int .i64 h)) ∧ w'.cell? ⟨b1, o1 + k * 2, none⟩ = some (.int .i64 lo) ∧ w'.cell? ⟨b1, o1 + k * 2 + 1, none⟩ = some (.int .i64 hi) from ⟨⟨(hw.cell (p := ⟨b0, o0 + k * 5, none⟩) hbl).trans c0, (hw.cell (p := ⟨b0, o0 + k * 5 + 1, none⟩) hbl).trans c1, (hw.cell (p := ⟨b0, o0 + k * 5 + 2, none⟩) hbl).trans c2, (hw.cell (p := ⟨b0, o0 + k * 5 + 3, none⟩) hbl).trans c3, (hw.cell (p := ⟨b0, o0 + k * 5 + 4, none⟩) hbl).trans c4⟩, (hw.cell (p := ⟨b1, o1 + k * 2, none⟩) hbl1).trans d0, (hw.cell (p := ⟨b1, o1 + k * 2 + 1, none⟩) hbl1).trans d1⟩)
      clear c0 c1 c2 c3 c4 d0 d1
      obtain ⟨⟨c0, c1, c2, c3, c4⟩, d0, d1⟩ := KK.out wr hB
      have CK := Lib.hid (fun u => rchkBr_any f b kk aa h u)
      have CI := Lib.hid (fun u => isTen_any lo hi u)
      cases ho : okB f b kk aa h
      · rw [show ((⟨f, b, kk, aa, h⟩ : Br).ok && okT (lo, hi)) = false by rw [show (⟨f, b, kk, aa, h⟩ : Br).ok = false from ho]; rfl] at GE
        rw [show chkBr f b kk aa h = 2 by unfold chkBr; rw [ho]; rfl] at CK
        go_wp2_with fail
        refine (CK.out _).mono ?_
        rintro e w2 ⟨rfl, hh⟩
        have B2 : Below w.heap.size w w2 := below_via hB hh
        have R02 := Lib.hid (R0.out.keep hh)
        clear hh CK R0 R1
        have he : E = 2 := by
          have h1 := GE.out
          rw [if_neg (by decide)] at h1
          have h2 := brE_up (l := l) (T := P) (k := k + 1) (by omega) (l.length - (k + 1))
          rw [show k + 1 + (l.length - (k + 1)) = l.length by omega, HE.out, h1] at h2
          exact h2
        subst he
        have hv0 := HV0.out; have hv1 := HV1.out
        rw [if_neg (by decide)] at hv0 hv1
        subst hv0; subst hv1
        obtain ⟨n0, n1, f0, f1⟩ := R02.out.two
        have l09 := R02.out.lt
        clear HV0 HV1 HE GE GO'
        go_wp2_with fail
        clear n0 n1 f0 f1
        have RV : Box ((w2.setCell ⟨w.heap.size, 0, none⟩ (.int .i64 0)).setCell ⟨w.heap.size, 1, none⟩ (.int .i64 0)) (w.heap.size) #[.int .i64 0, .int .i64 0] 90 := ((R02.out.set 0 _).set 1 _)
        have BV : Below w.heap.size w ((w2.setCell ⟨w.heap.size, 0, none⟩ (.int .i64 0)).setCell ⟨w.heap.size, 1, none⟩ (.int .i64 0)) := by (repeat' (first | (with_reducible exact Below.refl _ _) | (with_reducible assumption) | (with_reducible refine Below.drew ?_) | (with_reducible refine below_drewN ?_ _) | (with_reducible refine Below.setCell ?_ ?_ _) | (with_reducible refine Below.alloc ?_ ?_ _) | go_size | omega))
        generalize ((w2.setCell ⟨w.heap.size, 0, none⟩ (.int .i64 0)).setCell ⟨w.heap.size, 1, none⟩ (.int .i64 0)) = v at *
        have s0 := RV.cell 0
        have s1 := RV.cell 1
        simp at s0 s1
        go_wp2_with fail
        refine bodyPost_ret (v := .tuple #[rng 0 0, .int .i64 2]) (by simp [results, Try.results56, go_sem, s0, s1]) rfl ⟨rfl, BV⟩
      rw [show chkBr f b kk aa h = 0 by unfold chkBr; rw [ho]; rfl] at CK
      go_wp2_with fail
      refine (CK.out _).mono ?_
      rintro e w2 ⟨rfl, hh⟩
      have B2 : Below w.heap.size w w2 := below_via hB hh
      have R02 := Lib.hid (R0.out.keep hh); have R12 := Lib.hid (R1.out.keep hh)
      obtain ⟨⟨e0, e1, e2, e3, e4⟩, e5, e6⟩ := KK.out _ B2
      have z2 := hh.size
      have W2 := Lib.hid hh
      clear hh CK R0 R1 c0 c1 c2 c3 c4 d0 d1
      cases hok : okT (lo, hi)
      · rw [show ((⟨f, b, kk, aa, h⟩ : Br).ok && okT (lo, hi)) = false by rw [hok]; simp] at GE
        rw [hok] at CI
        go_wp2_with fail
        refine (CI.out _).mono ?_
        rintro e w3 ⟨rfl, hh⟩
        have B3 : Below w.heap.size w w3 := below_via B2 hh
        have R03 := Lib.hid (R02.out.keep hh)
        clear hh CI R02 R12
        have he : E = 2 := by
          have h1 := GE.out
          rw [if_neg (by decide)] at h1
          have h2 := brE_up (l := l) (T := P) (k := k + 1) (by omega) (l.length - (k + 1))
          rw [show k + 1 + (l.length - (k + 1)) = l.length by omega, HE.out, h1] at h2
          exact h2
        subst he
        have hv0 := HV0.out; have hv1 := HV1.out
        rw [if_neg (by decide)] at hv0 hv1
        subst hv0; subst hv1
        obtain ⟨n0, n1, f0, f1⟩ := R03.out.two
        have l09 := R03.out.lt
        clear HV0 HV1 HE GE GO'
        go_wp2_with fail
        clear n0 n1 f0 f1
        have RV : Box ((w3.setCell ⟨w.heap.size, 0, none⟩ (.int .i64 0)).setCell ⟨w.heap.size, 1, none⟩ (.int .i64 0)) (w.heap.size) #[.int .i64 0, .int .i64 0] 90 := ((R03.out.set 0 _).set 1 _)
        have BV : Below w.heap.size w ((w3.setCell ⟨w.heap.size, 0, none⟩ (.int .i64 0)).setCell ⟨w.heap.size, 1, none⟩ (.int .i64 0)) := by (repeat' (first | (with_reducible exact Below.refl _ _) | (with_reducible assumption) | (with_reducible refine Below.drew ?_) | (with_reducible refine below_drewN ?_ _) | (with_reducible refine Below.setCell ?_ ?_ _) | (with_reducible refine Below.alloc ?_ ?_ _) | go_size | omega))
        generalize ((w3.setCell ⟨w.heap.size, 0, none⟩ (.int .i64 0)).setCell ⟨w.heap.size, 1, none⟩ (.int .i64 0)) = v at *
        have s0 := RV.cell 0
        have s1 := RV.cell 1
        simp at s0 s1
        go_wp2_with fail
        refine bodyPost_ret (v := .tuple #[rng 0 0, .int .i64 2]) (by simp [results, Try.results56, go_sem, s0, s1]) rfl ⟨rfl, BV⟩
      rw [show ((⟨f, b, kk, aa, h⟩ : Br).ok && okT (lo, hi)) = true by rw [hok, show (⟨f, b, kk, aa, h⟩ : Br).ok = true from ho]; rfl] at GE
      rw [hok] at CI
      have rb := b_bd (x := ⟨f, b, kk, aa, h⟩) (t := (lo, hi)) ho hok
      have tb := Br.tbd (x := ⟨f, b, kk, aa, h⟩) (t := (lo, hi)) ho hok
      have db := Br.bd (x := ⟨f, b, kk, aa, h⟩) ho
      have CS := Lib.hid (fun u => steep_any f b kk aa h u ho)
      have BL := Lib.hid (show bLo ⟨f, b, kk, aa, h⟩ (lo, hi) = dn (min (lo * stN f b kk aa h) (hi * stN f b kk aa h)) (aa * h) from rfl)
      have BH := Lib.hid (show bHi ⟨f, b, kk, aa, h⟩ (lo, hi) = up (max (lo * stN f b kk aa h) (hi * stN f b kk aa h)) (aa * h) from rfl)
      change ((-120000000000000000 ≤ lo * stN f b kk aa h ∧ lo * stN f b kk aa h ≤ 120000000000000000) ∧ (-120000000000000000 ≤ hi * stN f b kk aa h ∧ hi * stN f b kk aa h ≤ 120000000000000000)) at tb
      change ((-12000000000 ≤ stN f b kk aa h ∧ stN f b kk aa h ≤ 12000000000) ∧ 1 ≤ aa * h ∧ aa * h ≤ 90000000000) at db
      generalize bLo ⟨f, b, kk, aa, h⟩ (lo, hi) = rl at *
      generalize bHi ⟨f, b, kk, aa, h⟩ (lo, hi) = rh at *
      generalize stN f b kk aa h = N at *
      obtain ⟨⟨rb0, rb1⟩, rb2, rb3⟩ := rb
      obtain ⟨⟨tb0, tb1⟩, tb2, tb3⟩ := tb
      obtain ⟨-, db0, db1⟩ := db
      go_wp2_with fail
      refine (CI.out _).mono ?_
      rintro e w3 ⟨rfl, hh⟩
      have B3 : Below w.heap.size w w3 := below_via B2 hh
      have R03 := Lib.hid (R02.out.keep hh); have R13 := Lib.hid (R12.out.keep hh)
      have W3 := Lib.hid (below_via W2.out hh)
      have z3 := hh.size
      clear hh CI R02 R12 W2 e0 e1 e2 e3 e4 e5 e6
      have hb03 : b0 < w3.heap.size := by omega
      have hb13 : b1 < w3.heap.size := by omega
      have wl : IntKind.i64.wrap (lo * N) = lo * N := IntWalk.i64_in _ (by omega)
      have wh : IntKind.i64.wrap (hi * N) = hi * N := IntWalk.i64_in _ (by omega)
      have K := Lib.hid (fun (w' : World) (hw : Below w3.heap.size w3 w') => KK.out w' (below_via B3 hw))
      go_wp2_with fail
      go_region_held3 (fun w' => (w'.cell? ⟨b0, o0 + k * 5, none⟩ = some (.int .i64 f) ∧ w'.cell? ⟨b0, o0 + k * 5 + 1, none⟩ = some (.int .i64 b) ∧ w'.cell? ⟨b0, o0 + k * 5 + 2, none⟩ = some (.int .i64 kk) ∧ w'.cell? ⟨b0, o0 + k * 5 + 3, none⟩ = some (.int .i64 aa) ∧ w'.cell? ⟨b0, o0 + k * 5 + 4, none⟩ = some (.int .i64 h)) ∧ w'.cell? ⟨b1, o1 + k * 2, none⟩ = some (.int .i64 lo) ∧ w'.cell? ⟨b1, o1 + k * 2 + 1, none⟩ = some (.int .i64 hi))
        ((refine K.out _ ?_; (repeat' (first | (with_reducible exact Below.refl _ _) | (with_reducible assumption) | (with_reducible refine Below.drew ?_) | (with_reducible refine below_drewN ?_ _) | (with_reducible refine Below.setCell ?_ ?_ _) | (with_reducible refine Below.alloc ?_ ?_ _) | go_size | omega)); done))
        (first | (go_at_call 92; refine (CS.out _).mono ?_; rintro e w4 ⟨rfl, h4⟩; have hB4 : Below w3.heap.size w3 w4 := below_via (by (repeat' (first | (with_reducible exact Below.refl _ _) | (with_reducible assumption) | (with_reducible refine Below.drew ?_) | (with_reducible refine below_drewN ?_ _) | (with_reducible refine Below.setCell ?_ ?_ _) | (with_reducible refine Below.alloc ?_ ?_ _) | go_size | omega))) h4; clear h4; have hz4 := hB4.size; obtain ⟨⟨k0, k1, k2, k3, k4⟩, k5, k6⟩ := K.out w4 hB4))
      have B4 : Below w.heap.size w w4 := below_via B3 hB4
      have R04 := Lib.hid (R03.out.keep hB4); have R14 := Lib.hid (R13.out.keep hB4)
      have z4 := B4.size
      clear R03 R13 W3 K hB4 wl wh CS hb03 hb13
      obtain ⟨q0, q1, g0, g1⟩ := R14.out.two
      have l14 := R14.out.lt
      have CF := fun u => Floor_any (if hi * N < lo * N then hi * N else lo * N) (aa * h) u (by split <;> omega) (by split <;> omega) (by omega) (by omega)
      have CG := fun u => Ceil_any (if lo * N < hi * N then hi * N else lo * N) (aa * h) u (by split <;> omega) (by split <;> omega) (by omega) (by omega)
      rw [show dn (if hi * N < lo * N then hi * N else lo * N) (aa * h) = rl by rw [BL.out]; congr 1; split <;> omega] at CF
      rw [show up (if lo * N < hi * N then hi * N else lo * N) (aa * h) = rh by rw [BH.out]; congr 1; split <;> omega] at CG
      have CF := Lib.hid CF; have CG := Lib.hid CG
      clear BL BH
      have wah : IntKind.i64.wrap (aa * h) = aa * h := IntWalk.i64_in _ (by omega)
      have ws0 : IntKind.i64.wrap (S0 + rl) = S0 + rl := IntWalk.i64_in _ (by omega)
      have ws1 : IntKind.i64.wrap (S1 + rh) = S1 + rh := IntWalk.i64_in _ (by omega)
      go_wp2_with fail
      go_still_tail 19, (by kernel_rfl)
      still_call (CF.out _)
      generalize (if hi * N < lo * N then hi * N else lo * N) = mn
      repeat still_step
      refine wpStill_nil ?_
      go_wp2_with fail
      clear q0 q1 g0 g1 l14
      have R15 : Box ((w4.setCell ⟨w.heap.size + 1, 0, none⟩ (.int .i64 (S0 + rl))).drew) (w.heap.size + 1) #[.int .i64 (S0 + rl), .int .i64 S1] 90 := (R14.out.set 0 _).drew
      have R05 := (R04.out.other ⟨w.heap.size + 1, 0, none⟩ (.int .i64 (S0 + rl)) (by simp)).drew
      have B5 : Below w.heap.size w ((w4.setCell ⟨w.heap.size + 1, 0, none⟩ (.int .i64 (S0 + rl))).drew) := by (repeat' (first | (with_reducible exact Below.refl _ _) | (with_reducible assumption) | (with_reducible refine Below.drew ?_) | (with_reducible refine below_drewN ?_ _) | (with_reducible refine Below.setCell ?_ ?_ _) | (with_reducible refine Below.alloc ?_ ?_ _) | go_size | omega))
      clear R04 R14 k0 k1 k2 k3 k4 k5 k6
      generalize ((w4.setCell ⟨w.heap.size + 1, 0, none⟩ (.int .i64 (S0 + rl))).drew) = w5 at *
      obtain ⟨⟨k0, k1, k2, k3, k4⟩, k5, k6⟩ := KK.out w5 B5
      have q0 := R15.cell 0; have q1 := R15.cell 1; have g0 := R15.free 0; have g1 := R15.free 1
      simp at q0 q1
      have l15 := R15.lt
      have z5 := B5.size
      have R15 := Lib.hid R15; have R05 := Lib.hid R05
      go_still_tail 19, (by kernel_rfl)
      still_call (CG.out _)
      generalize (if lo * N < hi * N then hi * N else lo * N) = mx
      repeat still_step
      refine wpStill_nil ?_
      go_wp2_with fail
      have R16 : Box ((w5.setCell ⟨w.heap.size + 1, 1, none⟩ (.int .i64 (S1 + rh))).drew) (w.heap.size + 1) #[.int .i64 (S0 + rl), .int .i64 (S1 + rh)] 90 := (R15.out.set 1 _).drew
      have R06 := (R05.out.other ⟨w.heap.size + 1, 1, none⟩ (.int .i64 (S1 + rh)) (by simp)).drew
      have B6 : Below w.heap.size w ((w5.setCell ⟨w.heap.size + 1, 1, none⟩ (.int .i64 (S1 + rh))).drew) := by (repeat' (first | (with_reducible exact Below.refl _ _) | (with_reducible assumption) | (with_reducible refine Below.drew ?_) | (with_reducible refine below_drewN ?_ _) | (with_reducible refine Below.setCell ?_ ?_ _) | (with_reducible refine Below.alloc ?_ ?_ _) | go_size | omega))
      go_roundw
      case rel => exact ⟨k + 1, by omega, by simp, by rw [GE.out]; rfl, R06, by rw [GO'.out.1, GO'.out.2]; exact R16, B6⟩
      case measure => simp [intOf]; omega
    · obtain rfl : k = l.length := by omega
      have he := HE.out
      rw [HEk.out] at he
      subst he
      have hv0 := HV0.out; have hv1 := HV1.out
      rw [if_pos rfl] at hv0 hv1
      rw [← hv0, ← hv1] at R1
      clear HV0 HV1 hv0 hv1 HE HEk
      obtain ⟨m0, m1, -⟩ := R1.out.two
      obtain ⟨n0, n1, f0, f1⟩ := R0.out.two
      go_wp2_with fail
      clear m0 m1 n0 n1 f0 f1
      have RV : Box ((wr.setCell ⟨w.heap.size, 0, none⟩ (.int .i64 V0)).setCell ⟨w.heap.size, 1, none⟩ (.int .i64 V1)) (w.heap.size) #[.int .i64 V0, .int .i64 V1] 90 := ((R0.out.set 0 _).set 1 _)
      have BV : Below w.heap.size w ((wr.setCell ⟨w.heap.size, 0, none⟩ (.int .i64 V0)).setCell ⟨w.heap.size, 1, none⟩ (.int .i64 V1)) := by (repeat' (first | (with_reducible exact Below.refl _ _) | (with_reducible assumption) | (with_reducible refine Below.drew ?_) | (with_reducible refine below_drewN ?_ _) | (with_reducible refine Below.setCell ?_ ?_ _) | (with_reducible refine Below.alloc ?_ ?_ _) | go_size | omega))
      generalize ((wr.setCell ⟨w.heap.size, 0, none⟩ (.int .i64 V0)).setCell ⟨w.heap.size, 1, none⟩ (.int .i64 V1)) = v at *
      have s0 := RV.cell 0
      have s1 := RV.cell 1
      simp at s0 s1
      go_wp2_with fail
      refine bodyPost_ret (v := .tuple #[rng V0 V1, .int .i64 0]) (by simp [results, Try.results56, go_sem, s0, s1]) rfl ⟨rfl, BV⟩
end Go.Proofs.Ytnfpmaenikhoaaa
