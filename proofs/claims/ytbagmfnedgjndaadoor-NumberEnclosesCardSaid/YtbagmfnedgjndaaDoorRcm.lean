/-
  The walk of the reference's cmp: two naturals in digits compare as their values.
-/
import Derived.Test.YtbagmfnedgjndaaDoorRof
import Derived.Test.YtbagmfnedgjndaaDoorPow2
namespace Go.Proofs.YtbagmfnedgjndaaDoor
open Go.RowKit
def RcRel (a b : List Nat) (w : World) (vi : Value) (wr : World) : Prop :=
  ∃ k : Nat, k ≤ a.length ∧ vi = .int .i64 ((k : Int) - 1) ∧ a.drop k = b.drop k ∧ Drew w wr
theorem dcmp_lt {a b : List Nat} (h : Dg.val a < Dg.val b) : cmpI (Dg.val a) (Dg.val b) = -1 := by unfold cmpI; rw [if_pos (by omega)]
theorem dcmp_gt {a b : List Nat} (h : Dg.val b < Dg.val a) : cmpI (Dg.val a) (Dg.val b) = 1 := by unfold cmpI; rw [if_neg (by omega), if_pos (by omega)]
set_option maxRecDepth 100000 in
set_option maxHeartbeats 800000 in
theorem rcmpN_any (ao bo : Option Addr) (ca cb : Nat) (a b : List Nat) (w : World) (ha : Rd w ao a) (hb : Rd w bo b) (hca : Dg.Can a) (hcb : Dg.Can b) (la : a.length ≤ 1073741824) (lb : b.length ≤ 1073741824) :
    Calls Tryd.prog 91 #[.slice ao a.length ca, .slice bo b.length cb] w fun e w' => e = .returned (.int .i64 (cmpI (Dg.val a) (Dg.val b))) ∧ Drew w w' := by
  have HA := Lib.hid ha; have HB := Lib.hid hb; have HCA := Lib.hid hca; have HCB := Lib.hid hcb
  clear ha hb hca hcb
  by_cases hl : a.length = b.length
  · have HL := Lib.hid hl
    have hne : ((a.length : Int) != (b.length : Int)) = false := by rw [hl]; simp
    clear hl
    go_enter Tryd.func91, Tryd.ntmps91
    go_wp2_with fail
    go_loopw [5] (RcRel a b w) (fun i _ => (intOf i + 1).toNat)
    case atStart => exact ⟨a.length, Nat.le_refl _, rfl, by rw [List.drop_eq_nil_of_le (by omega), List.drop_eq_nil_of_le (by have := HL.out; omega)], Drew.refl _⟩
    case round =>
      clear hne
      obtain ⟨k, hk, rfl, hdr, md, rfl⟩ := hrel
      have HD := Lib.hid hdr; clear hdr
      by_cases hk0 : k = 0
      · subst hk0
        go_wp2_with fail
        go_ret
        refine ⟨ret_int ?_, ⟨_, rfl⟩⟩
        have h2 := HD.out
        rw [List.drop_zero, List.drop_zero] at h2
        rw [h2]; unfold cmpI; simp
      · obtain ⟨m, rfl⟩ : ∃ m, k = m + 1 := ⟨k - 1, by omega⟩
        have em : ((m + 1 : Nat) : Int) - 1 = (m : Int) := by simp
        rw [em]
        have hml : m < b.length := by have := HL.out; omega
        obtain ⟨ga, rfl, -, -⟩ := HA.out.at (by omega)
        obtain ⟨gb, rfl, -, -⟩ := HB.out.at (by omega)
        have hx := HA.out.cell m (by omega)
        have hy := HB.out.cell m hml
        obtain ⟨x, hxx⟩ : ∃ x, a.getD m 0 = x := ⟨_, rfl⟩
        obtain ⟨y, hyy⟩ : ∃ y, b.getD m 0 = y := ⟨_, rfl⟩
        rw [hxx] at hx; rw [hyy] at hy
        have HX := Lib.hid hxx; have HY := Lib.hid hyy; clear hxx hyy
        have ib1 : (m : Int) < (a.length : Int) := by omega
        have ib2 : (m : Int) < (b.length : Int) := by omega
        rcases Nat.lt_trichotomy x y with h | h | h
        · have HE := Lib.hid (dcmp_lt (Dg.cmp_at HCA.out.lt (by omega) hml HD.out (by rw [HX.out, HY.out]; exact h)))
          go_wp2_with fail
          go_quiet (fail)
          go_wp2_with fail
          go_ret
          exact ⟨ret_int HE.out.symm, ((Drew.refl w).more _).more _⟩
        · subst h
          go_wp2_with fail
          go_quiet (fail)
          go_wp2_with fail
          go_quiet (fail)
          go_wp2_with fail
          exact ⟨⟨m, by omega, rfl, Dg.drop_eq_step (by omega) hml HD.out (by rw [HX.out, HY.out]), ⟨_, rfl⟩⟩, by first | (simp [intOf]; done) | (simp [intOf]; omega)⟩
        · have HE := Lib.hid (dcmp_gt (Dg.cmp_at HCB.out.lt hml (by omega) HD.out.symm (by rw [HX.out, HY.out]; exact h)))
          go_wp2_with fail
          go_quiet (fail)
          go_wp2_with fail
          go_quiet (fail)
          go_wp2_with fail
          go_ret
          exact ⟨ret_int HE.out.symm, (((Drew.refl w).more _).more _).more _⟩
  · have hne : ((a.length : Int) != (b.length : Int)) = true := by simp; omega
    rcases Nat.lt_or_gt_of_ne hl with h | h
    · have HE := Lib.hid (dcmp_lt (Dg.cmp_len HCA.out HCB.out h))
      go_enter Tryd.func91, Tryd.ntmps91
      go_wp2_with fail
      go_ret
      exact ⟨ret_int HE.out.symm, Drew.refl _⟩
    · have HE := Lib.hid (dcmp_gt (Dg.cmp_len HCB.out HCA.out h))
      go_enter Tryd.func91, Tryd.ntmps91
      go_wp2_with fail
      go_ret
      exact ⟨ret_int HE.out.symm, Drew.refl _⟩
end Go.Proofs.YtbagmfnedgjndaaDoor
