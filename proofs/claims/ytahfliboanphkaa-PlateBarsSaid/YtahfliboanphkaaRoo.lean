/-
  The walks of Root and of its reference: both search by halves for the greatest number whose power fits.
-/
import Derived.Test.YtahfliboanphkaaHlf
import Derived.Laws.EntriesVeiled
namespace Go.Proofs.Ytahfliboanphkaa
open Go.RowKit

/-- the power of a number fits -/
def fitsP (K N x : Nat) : Bool := decide (x ^ K ≤ N)
def RootRel (m K N : Nat) (w : World) (v5 v7 : Value) (wr : World) : Prop :=
  ∃ i p : Nat, p = m ^ i ∧ i ≤ K ∧ p ≤ N ∧ v5 = .int .i64 (p : Int) ∧ v7 = .int .i64 (i : Int) ∧ wr = w
theorem fitsP_no {m K N i : Nat} (hm : 1 ≤ m) (hi : i < K) (h : N / m < m ^ i) : fitsP K N m = false := by
  unfold fitsP
  have h1 : N < m ^ i * m := (Nat.div_lt_iff_lt_mul (by omega)).1 h
  have h2 : m ^ (i + 1) ≤ m ^ K := Nat.pow_le_pow_right (by omega) (by omega)
  rw [Nat.pow_succ] at h2
  simp; omega
theorem fitsP_go {m N i : Nat} (hm : 1 ≤ m) (h : m ^ i ≤ N / m) : m ^ i * m ≤ N := (Nat.le_div_iff_mul_le (by omega)).1 h

set_option maxRecDepth 100000 in
set_option maxHeartbeats 800000 in
theorem powerFits_any (b c m K N : Nat) (w : World) (hm : 1 ≤ m) (hmN : m ≤ N) (hK : 1 ≤ K) (hK' : K ≤ 12) (hN : N ≤ 1000000000000000000)
    (h0 : w.cell? ⟨b, 0, none⟩ = some (.int .i64 (K : Int))) (h1 : w.cell? ⟨c, 0, none⟩ = some (.int .i64 (N : Int))) :
    Calls Try.prog 105 (#[.int .i64 (m : Int)] ++ #[.pointer (some ⟨b, 0, none⟩), .pointer (some ⟨c, 0, none⟩)]) w fun e w' => e = .returned (.bool (fitsP K N m)) ∧ w' = w := by
  go_enter Try.func105, Try.ntmps105
  go_wp2_with fail
  go_loopw [5, 7] (RootRel m K N w) (fun _ v7 _ => (K - (intOf v7).toNat))
  case atStart => exact ⟨0, 1, rfl, by omega, by omega, rfl, rfl, rfl⟩
  case round =>
    obtain ⟨i, p, hp, hi, hpN, rfl, rfl, rfl⟩ := hrel
    have HP := Lib.hid hp; clear hp
    by_cases hlt : i < K
    · have hNm := Nat.div_le_self N m
      have hq : wrap64 ((N : Int) / (m : Int)) = ((N / m : Nat) : Int) := by
        rw [show (N : Int) / (m : Int) = ((N / m : Nat) : Int) from rfl]
        have h00 := Int.natCast_nonneg (N / m)
        exact IntWalk.wrap64_in _ ⟨by omega, by omega⟩
      by_cases hd : N / m < p
      · have HD := Lib.hid hd
        have hq2 : wrap64 ((N : Int) / (m : Int)) < (p : Int) := by rw [hq]; omega
        clear hq hd hNm
        go_wp2_with fail
        go_ret
        exact ⟨ret_bool (by rw [fitsP_no hm hlt (by rw [← HP.out]; exact HD.out)]), rfl⟩
      · have HD := Lib.hid hd
        have hq2 : (p : Int) ≤ wrap64 ((N : Int) / (m : Int)) := by rw [hq]; omega
        have hg : p * m ≤ N := by rw [HP.out]; exact fitsP_go hm (by rw [← HP.out]; omega)
        have hg2 : (p : Int) * (m : Int) = ((p * m : Nat) : Int) := by simp
        have hg3 : (p : Int) * (m : Int) ≤ 1000000000000000000 := by rw [hg2]; omega
        have hg4 : 0 ≤ (p : Int) * (m : Int) := by rw [hg2]; omega
        have HG := Lib.hid hg
        have HG2 := Lib.hid hg2
        clear hq hd hg hg2 hNm
        go_wp2_with fail
        go_roundw
        case rel => exact ⟨i + 1, p * m, by rw [Nat.pow_succ, HP.out], by omega, HG.out, by rw [← HG2.out], by simp, rfl⟩
        case measure => simp [intOf]; omega
    · go_wp2_with fail
      go_ret
      refine ⟨ret_bool ?_, rfl⟩
      have : i = K := by omega
      subst this
      unfold fitsP; rw [← HP.out]; simp; omega
def ReRel (P : Int → Bool) (low high : Int) (w : World) (a b : Value) (wr : World) : Prop :=
  ∃ l h : Int, low ≤ l ∧ h ≤ high ∧ l ≤ h ∧ a = .int .i64 l ∧ b = .int .i64 h ∧ half P l h = half P low high ∧ wr = w
def fitsI (K N : Nat) (x : Int) : Bool := fitsP K N x.toNat

/-- the error of a root -/
def rooE (n k : Int) : Int := if 0 ≤ n ∧ n ≤ 1000000000000000000 ∧ 1 ≤ k ∧ k ≤ 12 then 0 else 2
def rooV (n k : Int) : Int := if rooE n k = 0 then half (fitsI k.toNat n.toNat) 0 n else 0
theorem rooE_ok {n k : Int} (h : rooE n k = 0) : 0 ≤ n ∧ n ≤ 1000000000000000000 ∧ 1 ≤ k ∧ k ≤ 12 := by
  unfold rooE at h; split at h
  · assumption
  · omega
theorem enters105 (args : Array Value) (w : World) : (callFunc 105 args).run Try.prog w = .ok (.enter 105 args) w :=
  run_enter Try.func105 (by decide +kernel) (by decide +kernel) args w
set_option maxRecDepth 100000 in
set_option maxHeartbeats 800000 in
theorem root_ok (K N : Nat) (w : World) (hK : 1 ≤ K) (hK' : K ≤ 12) (hN : N ≤ 1000000000000000000) :
    Calls Try.prog 94 #[.int .i64 (N : Int), .int .i64 (K : Int)] w fun e w' => e = .returned (.tuple #[.int .i64 (half (fitsI K N) 0 (N : Int)), .int .i64 0]) ∧ Below w.heap.size w w' := by
  go_enter Try.func94, Try.ntmps94
  go_wp2_with fail
  refine (greatest_any 105 _ (fitsI K N) 0 (N : Int) _ (by omega) (by omega) (by omega) enters105 ?_).mono ?_
  · refine Lib.hid fun n wr hn0 hn1 hb => ?_
    have A := ((Box.new w #[.int .i64 (N : Int)] 3 rfl).alloc (.cells #[.int .i64 (K : Int)] 3)).keep hb
    have B := (Box.new (w.alloc (.cells #[.int .i64 (N : Int)] 3)) #[.int .i64 (K : Int)] 3 (n := w.heap.size + 1) (by simp)).keep hb
    have hm := powerFits_any (w.heap.size + 1) w.heap.size n.toNat K N wr (by omega) (by omega) hK hK' hN (B.cell 0) (A.cell 0)
    rw [Int.toNat_of_nonneg (by omega)] at hm
    refine hm.mono ?_
    rintro e w9 ⟨rfl, rfl⟩
    exact ⟨rfl, hb⟩
  · rintro e w1 ⟨rfl, h1⟩
    have B1 : Below w.heap.size w w1 := below_via (by go_grown) h1
    clear h1
    go_wp2_with fail
    refine bodyPost_ret (v := .tuple #[.int .i64 (half (fitsI K N) 0 (N : Int)), .int .i64 0])
      (by simp [results, Try.results94, go_sem]) rfl ⟨rfl, ?_⟩
    assumption
set_option maxRecDepth 100000 in
set_option maxHeartbeats 800000 in
theorem root_bad (n k : Int) (w : World) (h : rooE n k ≠ 0) :
    Calls Try.prog 94 #[.int .i64 n, .int .i64 k] w fun e w' => e = .returned (.tuple #[.int .i64 0, .int .i64 2]) ∧ Below w.heap.size w w' := by
  have hh : n < 0 ∨ (0 ≤ n ∧ 1000000000000000000 < n) ∨ (0 ≤ n ∧ n ≤ 1000000000000000000 ∧ k < 1) ∨ (0 ≤ n ∧ n ≤ 1000000000000000000 ∧ 1 ≤ k ∧ 12 < k) := by
    unfold rooE at h; split at h
    · omega
    · omega
  clear h
  rcases hh with h1 | ⟨h1, h2⟩ | ⟨h1, h2, h3⟩ | ⟨h1, h2, h3, h4⟩
  all_goals
    go_enter Try.func94, Try.ntmps94
    go_wp2_with fail
    refine bodyPost_ret (v := .tuple #[.int .i64 0, .int .i64 2])
      (by simp [results, Try.results94, go_sem]) rfl ⟨rfl, ?_⟩
    go_grown
theorem root_any (n k : Int) (w : World) :
    Calls Try.prog 94 #[.int .i64 n, .int .i64 k] w fun e w' => e = .returned (.tuple #[.int .i64 (rooV n k), .int .i64 (rooE n k)]) ∧ Below w.heap.size w w' := by
  by_cases h : rooE n k = 0
  · obtain ⟨h0, h1, h2, h3⟩ := rooE_ok h
    have hr := root_ok k.toNat n.toNat w (by omega) (by omega) (by omega)
    rw [Int.toNat_of_nonneg (by omega), Int.toNat_of_nonneg (by omega)] at hr
    unfold rooV
    rw [if_pos h, h]
    exact hr
  · have h2 : rooE n k = 2 := by
      unfold rooE at h ⊢; split at h
      · omega
      · rename_i hn; rw [if_neg hn]
    unfold rooV
    rw [if_neg h, h2]
    exact root_bad n k w h
end Go.Proofs.Ytahfliboanphkaa
