/-
  The reference of LeastHeight.
-/
import Derived.Test.YtgmiimpimoipcaaHei
namespace Go.Proofs.Ytgmiimpimoipcaa
open Go.RowKit
theorem big2_bd {t wn N a b : Int} (t0 : 0 ≤ t) (t1 : t ≤ 10000000) (w0 : -10000000 ≤ wn) (w1 : wn ≤ 10000000) (n0 : -12000000000 ≤ N) (n1 : N ≤ 12000000000) (a0 : 1 ≤ a) (a1 : a ≤ 300000) (b0 : 1 ≤ b) (b1 : b ≤ 300000) :
    IntKind.i64.wrap (t * N) = t * N ∧ IntKind.i64.wrap (wn * a) = wn * a ∧ IntKind.i64.wrap (wn * a * b) = wn * a * b := by
  have p := mul_bd (show -10000000 ≤ t by omega) t1 n0 n1
  have q := mul_bd w0 w1 (show -300000 ≤ a by omega) a1
  have r := mul_bd (a := wn * a) (b := b) (A := 3000000000000) (B := 300000) (show -3000000000000 ≤ wn * a by omega) (show wn * a ≤ 3000000000000 by omega) (show -300000 ≤ b by omega) b1
  exact ⟨IntWalk.i64_in _ (by omega), IntWalk.i64_in _ (by omega), IntWalk.i64_in _ (by omega)⟩
/-! the reference goes up, one by one -/
def RlRel (w : World) (f bk ah bh t wn : Int) (g : Nat) (wr : World) : Prop :=
  ∃ k : Nat, k ≤ 20001 ∧ g = 20001 - k ∧ (∀ j : Int, 0 ≤ j → j < k → lhP f bk ah bh t wn j = false) ∧ Box wr w.heap.size #[.int .i64 f, .int .i64 ((k : Int) - 10000), .int .i64 bk, .int .i64 ah, .int .i64 bh] 61 ∧ Below w.heap.size w wr
set_option maxRecDepth 100000 in
set_option maxHeartbeats 1600000 in
theorem rleast_any (f br bk ah bh t wn : Int) (w : World) (hok : okB f br bk ah bh = true) :
    Calls Try.prog 37 #[brg f br bk ah bh, .int .i64 t, .int .i64 wn] w fun e w' => e = .returned (.tuple #[.int .i64 (lhV f br bk ah bh t wn), .int .i64 (lhE f br bk ah bh t wn)]) ∧ Below w.heap.size w w' := by
  cases hr : (inR t 0 10000000 && inB wn 10000000)
  · have F1 := Lib.hid (show lhE f br bk ah bh t wn = 2 by unfold lhE; rw [hok, hr]; rfl)
    have F2 := Lib.hid (show lhV f br bk ah bh t wn = 0 by unfold lhV; rw [F1.out]; rfl)
    have hw' : inR wn (-10000000) 10000000 = inB wn 10000000 := rfl
    cases h1 : inR t 0 10000000 <;> cases h2 : inR wn (-10000000) 10000000
    all_goals
      first
      | (exfalso; rw [h1, ← hw', h2] at hr; cases hr; done)
      | skip
    all_goals
      clear hr hw'
      go_enter Try.func37, Try.ntmps37
      go_wp2_with (go_at_call 30; refine (Within_any _ _ _ _).mono ?_; rintro e w1 ⟨rfl, rfl⟩)
      go_ret2
      exact ⟨by rw [F1.out, F2.out]; rfl, by (repeat' (first | (with_reducible exact Below.refl _ _) | (with_reducible assumption) | (with_reducible refine Below.drew ?_) | (with_reducible refine below_drewN ?_ _) | (with_reducible refine Below.setCell ?_ ?_ _) | (with_reducible refine Below.alloc ?_ ?_ _) | go_size | omega))⟩
  · have hr2 := Bool.and_eq_true_iff.1 hr
    obtain ⟨h1, h2'⟩ := hr2
    have h2 : inR wn (-10000000) 10000000 = true := h2'
    have ht := of_decide_eq_true h1
    have hw := of_decide_eq_true h2'
    have F0 := Lib.hid (show lhE f br bk ah bh t wn = if bs (lhP f bk ah bh t wn) 0 20001 = 20001 then 12 else 0 by unfold lhE; rw [hok, hr]; rfl)
    have F3 := Lib.hid (show lhV f br bk ah bh t wn = if lhE f br bk ah bh t wn = 0 then bs (lhP f bk ah bh t wn) 0 20001 - 10000 else 0 from rfl)
    obtain ⟨-, -, -, ⟨a0, a1⟩, c0, c1⟩ := okB_bd hok
    have MO := Lib.hid (fun (a b : Int) (_ : (0 : Int) ≤ a) (hab : a ≤ b) (_ : b < 20001) (hp : lhP f bk ah bh t wn a = true) => (enough_mono (f := f) (bk := bk) (wn := wn) ht.1 (show 0 ≤ ah by omega) (show 0 ≤ bh by omega) (show a - 10000 ≤ b - 10000 by omega) hp : lhP f bk ah bh t wn b = true))
    have HOK := Lib.hid hok
    clear hr hok h2'
    go_enter Try.func37, Try.ntmps37
    go_wp2_with (go_at_call 30; refine (Within_any _ _ _ _).mono ?_; rintro e w1 ⟨rfl, rfl⟩)
    go_loopg [] 20001 (RlRel w f bk ah bh t wn)
    case atStart => exact ⟨0, by omega, rfl, (fun j j0 j1 => by omega), (by simp; exact Box.new w #[.int .i64 f, .int .i64 (-10000), .int .i64 bk, .int .i64 ah, .int .i64 bh] 61 rfl), by (repeat' (first | (with_reducible exact Below.refl _ _) | (with_reducible assumption) | (with_reducible refine Below.drew ?_) | (with_reducible refine below_drewN ?_ _) | (with_reducible refine Below.setCell ?_ ?_ _) | (with_reducible refine Below.alloc ?_ ?_ _) | go_size | omega))⟩
    case round =>
      obtain ⟨k, kle, hg, hj, hb, hB⟩ := hrel
      have HB := Lib.hid hb; have HJ := Lib.hid hj; have BW := hB
      have HG := Lib.hid hg
      obtain ⟨k0_0, k0_1, k0_2, k0_3, k0_4⟩ := (show (wr.cell? ⟨w.heap.size, 0, none⟩ = some (.int .i64 f) ∧ wr.cell? ⟨w.heap.size, 1, none⟩ = some (.int .i64 ((k : Int) - 10000)) ∧ wr.cell? ⟨w.heap.size, 2, none⟩ = some (.int .i64 bk) ∧ wr.cell? ⟨w.heap.size, 3, none⟩ = some (.int .i64 ah) ∧ wr.cell? ⟨w.heap.size, 4, none⟩ = some (.int .i64 bh)) from ⟨hb.cell 0, hb.cell 1, hb.cell 2, hb.cell 3, hb.cell 4⟩)
      have lb := hb.lt
      clear hb hj hg
      by_cases hk : k = 20001
      · have hk' : ¬ ((k : Int) - 10000 ≤ 10000) := by omega
        have F : bs (lhP f bk ah bh t wn) 0 20001 = 20001 := bs_eq _ _ _ _ (by omega) (by omega) MO.out (.inl rfl) (fun n n0 n1 => HJ.out n n0 (by omega))
        rw [F] at F0 F3
        clear hk F
        go_wp2_with fail
        go_ret2
        exact ⟨by rw [F3.out, F0.out]; rfl, by (repeat' (first | (with_reducible exact Below.refl _ _) | (with_reducible assumption) | (with_reducible refine Below.drew ?_) | (with_reducible refine below_drewN ?_ _) | (with_reducible refine Below.setCell ?_ ?_ _) | (with_reducible refine Below.alloc ?_ ?_ _) | go_size | omega))⟩
      · have hk' : (k : Int) - 10000 ≤ 10000 := by omega
        have hok := okB_h HOK.out (x := (k : Int) - 10000) (by omega) (by omega)
        have CS := Lib.hid (fun u => steep_any f ((k : Int) - 10000) bk ah bh u hok)
        have sn : -12000000000 ≤ stN f ((k : Int) - 10000) bk ah bh ∧ stN f ((k : Int) - 10000) bk ah bh ≤ 12000000000 := by
          obtain ⟨⟨m0, m1⟩, ⟨m2, m3⟩, m4, m5⟩ := stN_bd hok
          unfold stN; omega
        have HP := Lib.hid (show lhP f bk ah bh t wn k = decide (wn * ah * bh ≤ t * stN f ((k : Int) - 10000) bk ah bh) by unfold lhP enough; rw [Int.mul_assoc])
        clear hok
        generalize stN f ((k : Int) - 10000) bk ah bh = N at *
        obtain ⟨W1, W2, W3⟩ := big2_bd ht.1 ht.2 hw.1 hw.2 sn.1 sn.2 a0 a1 c0 c1
        have W4 : IntKind.i64.wrap ((k : Int) - 10000 + 1) = (k : Int) - 10000 + 1 := IntWalk.i64_in _ (by omega)
        by_cases hle : wn * ah * bh ≤ t * N
        · rw [show decide (wn * ah * bh ≤ t * N) = true from decide_eq_true hle] at HP
          have F : bs (lhP f bk ah bh t wn) 0 20001 = k := bs_eq _ _ _ _ (by omega) (by omega) MO.out (.inr HP.out) (fun n n0 n1 => HJ.out n n0 n1)
          rw [F, if_neg (show ¬ (k : Int) = 20001 by omega)] at F0
          rw [F] at F3
          clear F
          go_wp2_with fail
          have K := Lib.hid (fun (w' : World) (hw : Below wr.heap.size wr w') => show (w'.cell? ⟨w.heap.size, 0, none⟩ = some (.int .i64 f) ∧ w'.cell? ⟨w.heap.size, 1, none⟩ = some (.int .i64 ((k : Int) - 10000)) ∧ w'.cell? ⟨w.heap.size, 2, none⟩ = some (.int .i64 bk) ∧ w'.cell? ⟨w.heap.size, 3, none⟩ = some (.int .i64 ah) ∧ w'.cell? ⟨w.heap.size, 4, none⟩ = some (.int .i64 bh)) from ⟨(Box.keepB (by omega) (HB.out) hw).cell 0, (Box.keepB (by omega) (HB.out) hw).cell 1, (Box.keepB (by omega) (HB.out) hw).cell 2, (Box.keepB (by omega) (HB.out) hw).cell 3, (Box.keepB (by omega) (HB.out) hw).cell 4⟩)
          go_region_held3 (fun w' => (w'.cell? ⟨w.heap.size, 0, none⟩ = some (.int .i64 f) ∧ w'.cell? ⟨w.heap.size, 1, none⟩ = some (.int .i64 ((k : Int) - 10000)) ∧ w'.cell? ⟨w.heap.size, 2, none⟩ = some (.int .i64 bk) ∧ w'.cell? ⟨w.heap.size, 3, none⟩ = some (.int .i64 ah) ∧ w'.cell? ⟨w.heap.size, 4, none⟩ = some (.int .i64 bh)))
            ((refine K.out _ ?_; (repeat' (first | (with_reducible exact Below.refl _ _) | (with_reducible assumption) | (with_reducible refine Below.drew ?_) | (with_reducible refine below_drewN ?_ _) | (with_reducible refine Below.setCell ?_ ?_ _) | (with_reducible refine Below.alloc ?_ ?_ _) | go_size | omega)); done))
            (first | (go_at_call 64; refine (CS.out _).mono ?_; rintro e w8 ⟨rfl, h8⟩; have hB8 : Below wr.heap.size wr w8 := below_via (by (repeat' (first | (with_reducible exact Below.refl _ _) | (with_reducible assumption) | (with_reducible refine Below.drew ?_) | (with_reducible refine below_drewN ?_ _) | (with_reducible refine Below.setCell ?_ ?_ _) | (with_reducible refine Below.alloc ?_ ?_ _) | go_size | omega))) h8; clear h8; have hz8 := hB8.size; obtain ⟨k0_0, k0_1, k0_2, k0_3, k0_4⟩ := K.out w8 hB8; have g1 := (HB.out.keep hB8).free 1; have l8 := (HB.out.keep hB8).lt))
          all_goals
            go_wp2_with fail
            go_ret2
            exact ⟨by rw [F3.out, F0.out]; rfl, below_via BW hB8⟩
        · rw [show decide (wn * ah * bh ≤ t * N) = false from decide_eq_false hle] at HP
          go_wp2_with fail
          have K := Lib.hid (fun (w' : World) (hw : Below wr.heap.size wr w') => show (w'.cell? ⟨w.heap.size, 0, none⟩ = some (.int .i64 f) ∧ w'.cell? ⟨w.heap.size, 1, none⟩ = some (.int .i64 ((k : Int) - 10000)) ∧ w'.cell? ⟨w.heap.size, 2, none⟩ = some (.int .i64 bk) ∧ w'.cell? ⟨w.heap.size, 3, none⟩ = some (.int .i64 ah) ∧ w'.cell? ⟨w.heap.size, 4, none⟩ = some (.int .i64 bh)) from ⟨(Box.keepB (by omega) (HB.out) hw).cell 0, (Box.keepB (by omega) (HB.out) hw).cell 1, (Box.keepB (by omega) (HB.out) hw).cell 2, (Box.keepB (by omega) (HB.out) hw).cell 3, (Box.keepB (by omega) (HB.out) hw).cell 4⟩)
          go_region_held3 (fun w' => (w'.cell? ⟨w.heap.size, 0, none⟩ = some (.int .i64 f) ∧ w'.cell? ⟨w.heap.size, 1, none⟩ = some (.int .i64 ((k : Int) - 10000)) ∧ w'.cell? ⟨w.heap.size, 2, none⟩ = some (.int .i64 bk) ∧ w'.cell? ⟨w.heap.size, 3, none⟩ = some (.int .i64 ah) ∧ w'.cell? ⟨w.heap.size, 4, none⟩ = some (.int .i64 bh)))
            ((refine K.out _ ?_; (repeat' (first | (with_reducible exact Below.refl _ _) | (with_reducible assumption) | (with_reducible refine Below.drew ?_) | (with_reducible refine below_drewN ?_ _) | (with_reducible refine Below.setCell ?_ ?_ _) | (with_reducible refine Below.alloc ?_ ?_ _) | go_size | omega)); done))
            (first | (go_at_call 64; refine (CS.out _).mono ?_; rintro e w8 ⟨rfl, h8⟩; have hB8 : Below wr.heap.size wr w8 := below_via (by (repeat' (first | (with_reducible exact Below.refl _ _) | (with_reducible assumption) | (with_reducible refine Below.drew ?_) | (with_reducible refine below_drewN ?_ _) | (with_reducible refine Below.setCell ?_ ?_ _) | (with_reducible refine Below.alloc ?_ ?_ _) | go_size | omega))) h8; clear h8; have hz8 := hB8.size; obtain ⟨k0_0, k0_1, k0_2, k0_3, k0_4⟩ := K.out w8 hB8; have g1 := (HB.out.keep hB8).free 1; have l8 := (HB.out.keep hB8).lt))
          all_goals
            have R8 := (HB.out.keep hB8).set 1 (.int .i64 ((k : Int) - 10000 + 1))
            go_wp2_with fail
            go_roundg (20001 - (k + 1))
            case measure => have := HG.out; omega
            case rel =>
              refine ⟨k + 1, by omega, rfl, fun j j0 j1 => ?_, ?_, ?_⟩
              · by_cases hjk : j = k
                · rw [hjk]; exact HP.out
                · exact HJ.out j j0 (by push_cast at j1; omega)
              · have e : (((k + 1 : Nat) : Int)) - 10000 = (k : Int) - 10000 + 1 := by push_cast; omega
                rw [e]; simpa using R8
              · have B8 := below_via BW hB8
                (repeat' (first | (with_reducible exact Below.refl _ _) | (with_reducible assumption) | (with_reducible refine Below.drew ?_) | (with_reducible refine below_drewN ?_ _) | (with_reducible refine Below.setCell ?_ ?_ _) | (with_reducible refine Below.alloc ?_ ?_ _) | go_size | omega))
end Go.Proofs.Ytgmiimpimoipcaa
