/-
  Bearings: CheckBearing, steepness, DownBearing and their references.
-/
import Derived.Test.YtahfliboanphkaaFrc
import Derived.Laws.EntriesVeiled
import Derived.Lib.SmallJoins
namespace Go.Proofs.Ytahfliboanphkaa
open Go.RowKit
abbrev brg (f br bk ah bh : Int) : Value := .agg #[.int .i64 f, .int .i64 br, .int .i64 bk, .int .i64 ah, .int .i64 bh]
def okB (f br bk ah bh : Int) : Bool := inB f 10000 && (inB br 10000 && (inB bk 10000 && (inR ah 1 300000 && inR bh 1 300000)))
def chkBr (f br bk ah bh : Int) : Int := if okB f br bk ah bh then 0 else 2
theorem okB_bd {f br bk ah bh : Int} (h : okB f br bk ah bh = true) : (-10000 ≤ f ∧ f ≤ 10000) ∧ (-10000 ≤ br ∧ br ≤ 10000) ∧ (-10000 ≤ bk ∧ bk ≤ 10000) ∧ (1 ≤ ah ∧ ah ≤ 300000) ∧ (1 ≤ bh ∧ bh ≤ 300000) := by
  unfold okB inB inR at h; simp at h; omega
set_option maxRecDepth 100000 in
set_option maxHeartbeats 1600000 in
theorem chkBr_any (f br bk ah bh : Int) (w : World) :
    Calls Try.prog 77 #[brg f br bk ah bh] w fun e w' => e = .returned (.int .i64 (chkBr f br bk ah bh)) ∧ Below w.heap.size w w' := by
  have i0 : ∀ v : World, (Instr.index 23 (.agg #[.int .i64 f, .int .i64 br, .int .i64 bk]) (.int .i64 0)).run Try.prog v = .ok (.int .i64 f) v := fun _ => by kernel_rfl
  have i1 : ∀ v : World, (Instr.index 23 (.agg #[.int .i64 f, .int .i64 br, .int .i64 bk]) (.int .i64 1)).run Try.prog v = .ok (.int .i64 br) v := fun _ => by kernel_rfl
  have i2 : ∀ v : World, (Instr.index 23 (.agg #[.int .i64 f, .int .i64 br, .int .i64 bk]) (.int .i64 2)).run Try.prog v = .ok (.int .i64 bk) v := fun _ => by kernel_rfl
  cases h0 : inB f 10000
  · have F := Lib.hid (show chkBr f br bk ah bh = 2 by unfold chkBr okB; rw [h0]; rfl)
    go_enter Try.func77, Try.ntmps77
    go_wp2_with fail
    refine wp_loop_rounds 4 ?_
    iterate 1 (rw [rounds_succ]; go_wp2_with (go_at_call 64; refine (within_any _ _ _ (by omega) (by omega)).mono ?_; rintro e w' ⟨rfl, rfl⟩))
    go_ret
    exact ⟨ret_int (by rw [F.out]), by (repeat' (first | (with_reducible exact Below.refl _ _) | (with_reducible assumption) | (with_reducible refine Below.drew ?_) | (with_reducible refine below_drewN ?_ _) | (with_reducible refine Below.setCell ?_ ?_ _) | (with_reducible refine Below.alloc ?_ ?_ _) | go_size | omega))⟩
  cases h1 : inB br 10000
  · have F := Lib.hid (show chkBr f br bk ah bh = 2 by unfold chkBr okB; rw [h0, h1]; rfl)
    go_enter Try.func77, Try.ntmps77
    go_wp2_with fail
    refine wp_loop_rounds 4 ?_
    iterate 2 (rw [rounds_succ]; go_wp2_with (go_at_call 64; refine (within_any _ _ _ (by omega) (by omega)).mono ?_; rintro e w' ⟨rfl, rfl⟩))
    go_ret
    exact ⟨ret_int (by rw [F.out]), by (repeat' (first | (with_reducible exact Below.refl _ _) | (with_reducible assumption) | (with_reducible refine Below.drew ?_) | (with_reducible refine below_drewN ?_ _) | (with_reducible refine Below.setCell ?_ ?_ _) | (with_reducible refine Below.alloc ?_ ?_ _) | go_size | omega))⟩
  cases h2 : inB bk 10000
  · have F := Lib.hid (show chkBr f br bk ah bh = 2 by unfold chkBr okB; rw [h0, h1, h2]; rfl)
    go_enter Try.func77, Try.ntmps77
    go_wp2_with fail
    refine wp_loop_rounds 4 ?_
    iterate 3 (rw [rounds_succ]; go_wp2_with (go_at_call 64; refine (within_any _ _ _ (by omega) (by omega)).mono ?_; rintro e w' ⟨rfl, rfl⟩))
    go_ret
    exact ⟨ret_int (by rw [F.out]), by (repeat' (first | (with_reducible exact Below.refl _ _) | (with_reducible assumption) | (with_reducible refine Below.drew ?_) | (with_reducible refine below_drewN ?_ _) | (with_reducible refine Below.setCell ?_ ?_ _) | (with_reducible refine Below.alloc ?_ ?_ _) | go_size | omega))⟩
  cases h3 : inR ah 1 300000 <;> cases h4 : inR bh 1 300000
  all_goals
    have F := Lib.hid (show chkBr f br bk ah bh = if inR ah 1 300000 && inR bh 1 300000 then 0 else 2 by unfold chkBr okB; rw [h0, h1, h2]; rfl)
    rw [h3, h4] at F
    go_enter Try.func77, Try.ntmps77
    go_wp2_with fail
    refine wp_loop_rounds 4 ?_
    iterate 3 (rw [rounds_succ]; go_wp2_with (go_at_call 64; refine (within_any _ _ _ (by omega) (by omega)).mono ?_; rintro e w' ⟨rfl, rfl⟩))
    rw [rounds_succ]
    go_wp2_with (go_at_call 59; refine (between_any _ _ _ _).mono ?_; rintro e w' ⟨rfl, rfl⟩)
    go_ret
    exact ⟨ret_int (by rw [F.out]; rfl), by (repeat' (first | (with_reducible exact Below.refl _ _) | (with_reducible assumption) | (with_reducible refine Below.drew ?_) | (with_reducible refine below_drewN ?_ _) | (with_reducible refine Below.setCell ?_ ?_ _) | (with_reducible refine Below.alloc ?_ ?_ _) | go_size | omega))⟩
def stN (f br bk ah bh : Int) : Int := (br - f) * bh + (br - bk) * ah
theorem stN_bd {f br bk ah bh : Int} (h : okB f br bk ah bh = true) : (-6000000000 ≤ (br - f) * bh ∧ (br - f) * bh ≤ 6000000000) ∧ (-6000000000 ≤ (br - bk) * ah ∧ (br - bk) * ah ≤ 6000000000) ∧ (1 ≤ ah * bh ∧ ah * bh ≤ 90000000000) := by
  obtain ⟨⟨f0, f1⟩, ⟨b0, b1⟩, ⟨k0, k1⟩, ⟨a0, a1⟩, c0, c1⟩ := okB_bd h
  have m1 := mul_bd (show -20000 ≤ br - f by omega) (show br - f ≤ 20000 by omega) (show -300000 ≤ bh by omega) c1
  have m2 := mul_bd (show -20000 ≤ br - bk by omega) (show br - bk ≤ 20000 by omega) (show -300000 ≤ ah by omega) a1
  have m3 := mul_bd (show -300000 ≤ ah by omega) a1 (show -300000 ≤ bh by omega) c1
  have m4 := Int.mul_le_mul a0 c0 (by omega) (by omega)
  omega
/-! two steps to the lowest terms are one -/
theorem red_mul {g n d : Int} (hg : 0 < g) : redN (g * n) (g * d) = redN n d ∧ redD (g * n) (g * d) = redD n d := by
  have e : gcdI (g * n) (g * d) = g * gcdI n d := by
    unfold gcdI; rw [Int.gcd_mul_left]
    push_cast
    rw [Int.natAbs_of_nonneg (by omega)]
  unfold redN redD
  rw [e, Int.mul_tdiv_mul_of_pos _ _ hg, Int.mul_tdiv_mul_of_pos _ _ hg]
  exact ⟨rfl, rfl⟩
theorem red_back {n d : Int} (hd : 1 ≤ d) : 0 < gcdI n d ∧ n = gcdI n d * redN n d ∧ d = gcdI n d * redD n d ∧ 1 ≤ redD n d := by
  have hg : 0 < gcdI n d := by unfold gcdI; have : 0 < Int.gcd n d := Int.gcd_pos_of_ne_zero_right _ (by omega); omega
  have h1 : gcdI n d ∣ n := by unfold gcdI; exact Int.gcd_dvd_left ..
  have h2 : gcdI n d ∣ d := by unfold gcdI; exact Int.gcd_dvd_right ..
  have e1 : n = gcdI n d * redN n d := by unfold redN; rw [Int.mul_tdiv_cancel' h1]
  have e2 : d = gcdI n d * redD n d := by unfold redD; rw [Int.mul_tdiv_cancel' h2]
  refine ⟨hg, e1, e2, ?_⟩
  rcases Int.lt_or_le (redD n d) 1 with h | h
  · exfalso
    have : gcdI n d * redD n d ≤ 0 := Int.mul_nonpos_of_nonneg_of_nonpos (by omega) (by omega)
    omega
  · exact h
theorem red_two {t n d : Int} (hd : 1 ≤ d) : redN (t * redN n d) (redD n d) = redN (t * n) d ∧ redD (t * redN n d) (redD n d) = redD (t * n) d := by
  obtain ⟨hg, e1, e2, -⟩ := red_back (n := n) hd
  have e3 : t * n = gcdI n d * (t * redN n d) := by
    have : t * n = t * (gcdI n d * redN n d) := by rw [← e1]
    rw [this]; rw [← Int.mul_assoc, Int.mul_comm t, Int.mul_assoc]
  have h := red_mul (n := t * redN n d) (d := redD n d) hg
  rw [← e3, ← e2] at h
  exact ⟨h.1.symm, h.2.symm⟩
theorem red_size {n d : Int} (hd : 1 ≤ d) {M : Int} (h0 : -M ≤ n) (h1 : n ≤ M) : -M ≤ redN n d ∧ redN n d ≤ M ∧ redD n d ≤ d := by
  have a := tdiv_bd (g := gcdI n d) h0 h1
  have b := tdiv_bd (g := gcdI n d) (show -d ≤ d by omega) (Int.le_refl d)
  exact ⟨a.1, a.2, b.2⟩
set_option maxRecDepth 100000 in
set_option maxHeartbeats 1600000 in
theorem steepness_any (f br bk ah bh : Int) (w : World) (h : okB f br bk ah bh = true) :
    Calls Try.prog 78 #[brg f br bk ah bh] w fun e w' => e = .returned (.agg #[.int .i64 (redN (stN f br bk ah bh) (ah * bh)), .int .i64 (redD (stN f br bk ah bh) (ah * bh))]) ∧ Below w.heap.size w w' := by
  obtain ⟨⟨m0, m1⟩, ⟨m2, m3⟩, m4, m5⟩ := stN_bd h
  obtain ⟨⟨f0, f1⟩, ⟨b0, b1⟩, ⟨k0, k1⟩, ⟨a0, a1⟩, c0, c1⟩ := okB_bd h
  have CR := Lib.hid (fun u => reduced_any ((br - f) * bh + (br - bk) * ah) (ah * bh) u (by omega) (by omega) m4 (by omega))
  clear h
  go_enter Try.func78, Try.ntmps78
  go_wp2_with fail
  refine (CR.out _).mono ?_
  rintro e w2 ⟨rfl, h2⟩
  have B2 : Below w.heap.size w w2 := below_via (by (repeat' (first | (with_reducible exact Below.refl _ _) | (with_reducible assumption) | (with_reducible refine Below.drew ?_) | (with_reducible refine below_drewN ?_ _) | (with_reducible refine Below.setCell ?_ ?_ _) | (with_reducible refine Below.alloc ?_ ?_ _) | go_size | omega))) h2
  have z2 := h2.size
  simp at z2
  have R2 := Lib.hid ((Box.new (w.alloc (.cells #[.int .i64 f, .int .i64 br, .int .i64 bk, .int .i64 ah, .int .i64 bh] 89)) #[.int .i64 0, .int .i64 0] 63 (n := w.heap.size + 1) (by simp)).keep h2)
  clear h2 CR
  obtain ⟨r0, r1, g0, g1⟩ := R2.out.two
  have lr := R2.out.lt
  go_wp2_with fail
  clear r0 r1 g0 g1
  have RV : Box ((w2.setCell ⟨w.heap.size + 1, 0, none⟩ (.int .i64 (redN ((br - f) * bh + (br - bk) * ah) (ah * bh)))).setCell ⟨w.heap.size + 1, 1, none⟩ (.int .i64 (redD ((br - f) * bh + (br - bk) * ah) (ah * bh)))) (w.heap.size + 1) #[.int .i64 (redN ((br - f) * bh + (br - bk) * ah) (ah * bh)), .int .i64 (redD ((br - f) * bh + (br - bk) * ah) (ah * bh))] 63 := ((R2.out.set 0 _).set 1 _)
  have BV : Below w.heap.size w ((w2.setCell ⟨w.heap.size + 1, 0, none⟩ (.int .i64 (redN ((br - f) * bh + (br - bk) * ah) (ah * bh)))).setCell ⟨w.heap.size + 1, 1, none⟩ (.int .i64 (redD ((br - f) * bh + (br - bk) * ah) (ah * bh)))) := by (repeat' (first | (with_reducible exact Below.refl _ _) | (with_reducible assumption) | (with_reducible refine Below.drew ?_) | (with_reducible refine below_drewN ?_ _) | (with_reducible refine Below.setCell ?_ ?_ _) | (with_reducible refine Below.alloc ?_ ?_ _) | go_size | omega))
  generalize ((w2.setCell ⟨w.heap.size + 1, 0, none⟩ (.int .i64 (redN ((br - f) * bh + (br - bk) * ah) (ah * bh)))).setCell ⟨w.heap.size + 1, 1, none⟩ (.int .i64 (redD ((br - f) * bh + (br - bk) * ah) (ah * bh)))) = v at *
  have s0 := RV.cell 0
  have s1 := RV.cell 1
  simp at s0 s1
  go_wp2_with fail
  refine bodyPost_ret (v := .agg #[.int .i64 (redN ((br - f) * bh + (br - bk) * ah) (ah * bh)), .int .i64 (redD ((br - f) * bh + (br - bk) * ah) (ah * bh))]) (by simp [results, Try.results78, go_sem, s0, s1]) rfl ⟨rfl, BV⟩
def dbE (f br bk ah bh t : Int) : Int := if okB f br bk ah bh && inR t 0 10000000 then 0 else 2
def dbN (f br bk ah bh t : Int) : Int := if okB f br bk ah bh && inR t 0 10000000 then redN (t * stN f br bk ah bh) (ah * bh) else 0
def dbD (f br bk ah bh t : Int) : Int := if okB f br bk ah bh && inR t 0 10000000 then redD (t * stN f br bk ah bh) (ah * bh) else 0
set_option maxRecDepth 100000 in
set_option maxHeartbeats 1600000 in
theorem downBearing_any (f br bk ah bh t : Int) (w : World) :
    Calls Try.prog 43 #[brg f br bk ah bh, .int .i64 t] w fun e w' => e = .returned (.tuple #[.agg #[.int .i64 (dbN f br bk ah bh t), .int .i64 (dbD f br bk ah bh t)], .int .i64 (dbE f br bk ah bh t)]) ∧ Below w.heap.size w w' := by
  have CK := Lib.hid (fun u => chkBr_any f br bk ah bh u)
  cases hok : okB f br bk ah bh
  · have F1 := Lib.hid (show dbN f br bk ah bh t = 0 by unfold dbN; rw [hok]; rfl)
    have F2 := Lib.hid (show dbD f br bk ah bh t = 0 by unfold dbD; rw [hok]; rfl)
    have F3 := Lib.hid (show dbE f br bk ah bh t = 2 by unfold dbE; rw [hok]; rfl)
    rw [show chkBr f br bk ah bh = 2 by unfold chkBr; rw [hok]; rfl] at CK
    clear hok
    go_enter Try.func43, Try.ntmps43
    go_wp2_with fail
    refine (CK.out _).mono ?_
    rintro e w1 ⟨rfl, h1⟩
    have B1 : Below w.heap.size w w1 := below_via (by (repeat' (first | (with_reducible exact Below.refl _ _) | (with_reducible assumption) | (with_reducible refine Below.drew ?_) | (with_reducible refine below_drewN ?_ _) | (with_reducible refine Below.setCell ?_ ?_ _) | (with_reducible refine Below.alloc ?_ ?_ _) | go_size | omega))) h1
    have z1 := h1.size
    simp at z1
    have R1 := Lib.hid ((Box.new (w.alloc (.cells #[.int .i64 f, .int .i64 br, .int .i64 bk, .int .i64 ah, .int .i64 bh] 89)) #[.int .i64 0, .int .i64 0] 63 (n := w.heap.size + 1) (by simp)).keep h1)
    clear h1
    obtain ⟨r0, r1, g0, g1⟩ := R1.out.two
    have lr := R1.out.lt
    go_wp2_with fail
    clear r0 r1 g0 g1
    have RV : Box ((w1.setCell ⟨w.heap.size + 1, 0, none⟩ (.int .i64 0)).setCell ⟨w.heap.size + 1, 1, none⟩ (.int .i64 0)) (w.heap.size + 1) #[.int .i64 0, .int .i64 0] 63 := ((R1.out.set 0 _).set 1 _)
    have BV : Below w.heap.size w ((w1.setCell ⟨w.heap.size + 1, 0, none⟩ (.int .i64 0)).setCell ⟨w.heap.size + 1, 1, none⟩ (.int .i64 0)) := by (repeat' (first | (with_reducible exact Below.refl _ _) | (with_reducible assumption) | (with_reducible refine Below.drew ?_) | (with_reducible refine below_drewN ?_ _) | (with_reducible refine Below.setCell ?_ ?_ _) | (with_reducible refine Below.alloc ?_ ?_ _) | go_size | omega))
    generalize ((w1.setCell ⟨w.heap.size + 1, 0, none⟩ (.int .i64 0)).setCell ⟨w.heap.size + 1, 1, none⟩ (.int .i64 0)) = v at *
    have s0 := RV.cell 0
    have s1 := RV.cell 1
    simp at s0 s1
    go_wp2_with fail
    refine bodyPost_ret (v := .tuple #[.agg #[.int .i64 0, .int .i64 0], .int .i64 2]) (by simp [results, Try.results43, go_sem, s0, s1]) rfl ⟨by rw [F1.out, F2.out, F3.out], BV⟩
  have ST := Lib.hid (fun u => steepness_any f br bk ah bh u hok)
  obtain ⟨⟨m0, m1⟩, ⟨m2, m3⟩, m4, m5⟩ := stN_bd hok
  have sn : -12000000000 ≤ stN f br bk ah bh ∧ stN f br bk ah bh ≤ 12000000000 := by unfold stN; omega
  obtain ⟨sn0, sn1⟩ := sn
  obtain ⟨rs0, rs1, rs2⟩ := red_size (n := stN f br bk ah bh) m4 sn0 sn1
  obtain ⟨-, -, -, rd⟩ := red_back (n := stN f br bk ah bh) m4
  rw [show chkBr f br bk ah bh = 0 by unfold chkBr; rw [hok]; rfl] at CK
  cases ht : inR t 0 10000000
  · have F1 := Lib.hid (show dbN f br bk ah bh t = 0 by unfold dbN; rw [hok, ht]; rfl)
    have F2 := Lib.hid (show dbD f br bk ah bh t = 0 by unfold dbD; rw [hok, ht]; rfl)
    have F3 := Lib.hid (show dbE f br bk ah bh t = 2 by unfold dbE; rw [hok, ht]; rfl)
    clear hok
    go_enter Try.func43, Try.ntmps43
    go_wp2_with fail
    refine (CK.out _).mono ?_
    rintro e w1 ⟨rfl, h1⟩
    have B1 : Below w.heap.size w w1 := below_via (by (repeat' (first | (with_reducible exact Below.refl _ _) | (with_reducible assumption) | (with_reducible refine Below.drew ?_) | (with_reducible refine below_drewN ?_ _) | (with_reducible refine Below.setCell ?_ ?_ _) | (with_reducible refine Below.alloc ?_ ?_ _) | go_size | omega))) h1
    have z1 := h1.size
    simp at z1
    have R1 := Lib.hid ((Box.new (w.alloc (.cells #[.int .i64 f, .int .i64 br, .int .i64 bk, .int .i64 ah, .int .i64 bh] 89)) #[.int .i64 0, .int .i64 0] 63 (n := w.heap.size + 1) (by simp)).keep h1)
    clear h1
    obtain ⟨r0, r1, g0, g1⟩ := R1.out.two
    have lr := R1.out.lt
    go_wp2_with (go_at_call 59; refine (between_any _ _ _ _).mono ?_; rintro e w1 ⟨rfl, rfl⟩)
    clear r0 r1 g0 g1
    have RV : Box ((w1.setCell ⟨w.heap.size + 1, 0, none⟩ (.int .i64 0)).setCell ⟨w.heap.size + 1, 1, none⟩ (.int .i64 0)) (w.heap.size + 1) #[.int .i64 0, .int .i64 0] 63 := ((R1.out.set 0 _).set 1 _)
    have BV : Below w.heap.size w ((w1.setCell ⟨w.heap.size + 1, 0, none⟩ (.int .i64 0)).setCell ⟨w.heap.size + 1, 1, none⟩ (.int .i64 0)) := by (repeat' (first | (with_reducible exact Below.refl _ _) | (with_reducible assumption) | (with_reducible refine Below.drew ?_) | (with_reducible refine below_drewN ?_ _) | (with_reducible refine Below.setCell ?_ ?_ _) | (with_reducible refine Below.alloc ?_ ?_ _) | go_size | omega))
    generalize ((w1.setCell ⟨w.heap.size + 1, 0, none⟩ (.int .i64 0)).setCell ⟨w.heap.size + 1, 1, none⟩ (.int .i64 0)) = v at *
    have s0 := RV.cell 0
    have s1 := RV.cell 1
    simp at s0 s1
    go_wp2_with fail
    refine bodyPost_ret (v := .tuple #[.agg #[.int .i64 0, .int .i64 0], .int .i64 2]) (by simp [results, Try.results43, go_sem, s0, s1]) rfl ⟨by rw [F1.out, F2.out, F3.out], BV⟩
  have ht' := of_decide_eq_true ht
  have tw := red_two (t := t) (n := stN f br bk ah bh) m4
  have F1 := Lib.hid (show dbN f br bk ah bh t = redN (t * redN (stN f br bk ah bh) (ah * bh)) (redD (stN f br bk ah bh) (ah * bh)) by unfold dbN; rw [hok, ht, tw.1]; rfl)
  have F2 := Lib.hid (show dbD f br bk ah bh t = redD (t * redN (stN f br bk ah bh) (ah * bh)) (redD (stN f br bk ah bh) (ah * bh)) by unfold dbD; rw [hok, ht, tw.2]; rfl)
  have F3 := Lib.hid (show dbE f br bk ah bh t = 0 by unfold dbE; rw [hok, ht]; rfl)
  clear hok tw m0 m1 m2 m3
  generalize redN (stN f br bk ah bh) (ah * bh) = N at *
  generalize redD (stN f br bk ah bh) (ah * bh) = D at *
  obtain ⟨p0, p1⟩ := mul_bd (show -10000000 ≤ t by omega) ht'.2 rs0 rs1
  have CR := Lib.hid (fun u => reduced_any (t * N) D u (by omega) (by omega) rd (by omega))
  go_enter Try.func43, Try.ntmps43
  go_wp2_with fail
  refine (CK.out _).mono ?_
  rintro e w1 ⟨rfl, h1⟩
  have B1 : Below w.heap.size w w1 := below_via (by (repeat' (first | (with_reducible exact Below.refl _ _) | (with_reducible assumption) | (with_reducible refine Below.drew ?_) | (with_reducible refine below_drewN ?_ _) | (with_reducible refine Below.setCell ?_ ?_ _) | (with_reducible refine Below.alloc ?_ ?_ _) | go_size | omega))) h1
  have z1 := h1.size
  simp at z1
  have A1 := Lib.hid (((Box.new w #[.int .i64 f, .int .i64 br, .int .i64 bk, .int .i64 ah, .int .i64 bh] 89 (n := w.heap.size) rfl).alloc (.cells #[.int .i64 0, .int .i64 0] 63)).keep h1)
  have R1 := Lib.hid ((Box.new (w.alloc (.cells #[.int .i64 f, .int .i64 br, .int .i64 bk, .int .i64 ah, .int .i64 bh] 89)) #[.int .i64 0, .int .i64 0] 63 (n := w.heap.size + 1) (by simp)).keep h1)
  clear h1
  have a0 := A1.out.cell 0; have a1 := A1.out.cell 1; have a2 := A1.out.cell 2; have a3 := A1.out.cell 3; have a4 := A1.out.cell 4
  simp at a0 a1 a2 a3 a4
  go_wp2_with (go_at_call 59; refine (between_any _ _ _ _).mono ?_; rintro e w1 ⟨rfl, rfl⟩)
  refine (ST.out _).mono ?_
  rintro e w2 ⟨rfl, h2⟩
  have B2 : Below w.heap.size w w2 := below_via (by (repeat' (first | (with_reducible exact Below.refl _ _) | (with_reducible assumption) | (with_reducible refine Below.drew ?_) | (with_reducible refine below_drewN ?_ _) | (with_reducible refine Below.setCell ?_ ?_ _) | (with_reducible refine Below.alloc ?_ ?_ _) | go_size | omega))) h2
  have z2 := h2.size
  have R2 := Lib.hid ((R1.out.keep h2).alloc (.cells #[.int .i64 N, .int .i64 D] 63))
  have T2 := Lib.hid (Box.new w2 #[.int .i64 N, .int .i64 D] 63 (n := w2.heap.size) rfl)
  clear h2 A1 R1 a0 a1 a2 a3 a4 ST CK
  go_wp2_with fail
  refine (CR.out _).mono ?_
  rintro e w3 ⟨rfl, h3⟩
  have B3 : Below w.heap.size w w3 := below_via (by (repeat' (first | (with_reducible exact Below.refl _ _) | (with_reducible assumption) | (with_reducible refine Below.drew ?_) | (with_reducible refine below_drewN ?_ _) | (with_reducible refine Below.setCell ?_ ?_ _) | (with_reducible refine Below.alloc ?_ ?_ _) | go_size | omega))) h3
  have R3 := Lib.hid (R2.out.keep h3)
  clear h3 R2 T2 CR
  obtain ⟨r0, r1, g0, g1⟩ := R3.out.two
  have lr := R3.out.lt
  go_wp2_with fail
  clear r0 r1 g0 g1
  have RV : Box ((w3.setCell ⟨w.heap.size + 1, 0, none⟩ (.int .i64 (redN (t * N) D))).setCell ⟨w.heap.size + 1, 1, none⟩ (.int .i64 (redD (t * N) D))) (w.heap.size + 1) #[.int .i64 (redN (t * N) D), .int .i64 (redD (t * N) D)] 63 := ((R3.out.set 0 _).set 1 _)
  have BV : Below w.heap.size w ((w3.setCell ⟨w.heap.size + 1, 0, none⟩ (.int .i64 (redN (t * N) D))).setCell ⟨w.heap.size + 1, 1, none⟩ (.int .i64 (redD (t * N) D))) := by (repeat' (first | (with_reducible exact Below.refl _ _) | (with_reducible assumption) | (with_reducible refine Below.drew ?_) | (with_reducible refine below_drewN ?_ _) | (with_reducible refine Below.setCell ?_ ?_ _) | (with_reducible refine Below.alloc ?_ ?_ _) | go_size | omega))
  generalize ((w3.setCell ⟨w.heap.size + 1, 0, none⟩ (.int .i64 (redN (t * N) D))).setCell ⟨w.heap.size + 1, 1, none⟩ (.int .i64 (redD (t * N) D))) = v at *
  have s0 := RV.cell 0
  have s1 := RV.cell 1
  simp at s0 s1
  go_wp2_with fail
  refine bodyPost_ret (v := .tuple #[.agg #[.int .i64 (redN (t * N) D), .int .i64 (redD (t * N) D)], .int .i64 0]) (by simp [results, Try.results43, go_sem, s0, s1]) rfl ⟨by rw [F1.out, F2.out, F3.out], BV⟩
end Go.Proofs.Ytahfliboanphkaa
