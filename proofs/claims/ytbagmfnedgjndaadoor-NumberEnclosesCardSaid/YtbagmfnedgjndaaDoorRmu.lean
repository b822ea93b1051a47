/-
  The walk of the reference's mul: the product of two naturals in digits to the base 10000.
-/
import Derived.Test.YtbagmfnedgjndaaDoorRn
namespace Go.Proofs.YtbagmfnedgjndaaDoor
open Go.RowKit
set_option maxRecDepth 100000 in
set_option maxHeartbeats 800000 in
theorem rmul_any (ao bo : Option Addr) (ca cb : Nat) (a b : List Nat) (w : World) (ha : Rd w ao a) (hb : Rd w bo b) (hca : Dg.Can a) (hcb : Dg.Can b) (la : a.length ≤ 1073741824) (lb : b.length ≤ 1073741824) :
    Calls Tryd.prog 99 #[.slice ao a.length ca, .slice bo b.length cb] w (RnPost (Dg.val a * Dg.val b) (a.length + b.length + 1) w) := by
  obtain ⟨i0, hi, hz0, hz1, hz2⟩ := info_parts info3
  have hlit := World.ownsRow_lit (e := 3) (size := 1) (base := w.heap.size) w (madeCells #[.int .i64 0] (a.length + b.length + 1)) (a.length + b.length + 1) (Nat.le_refl _) (by unfold maxLen; omega) (by simp [size_madeCells])
  rw [toList_madeCells_one] at hlit
  have HL : Hid _ := hlit
  have HA := Lib.hid ha; have HB := Lib.hid hb; have HCA := Lib.hid hca; have HCB := Lib.hid hcb
  clear ha hb hca hcb hlit
  go_enter Tryd.func99, Tryd.ntmps99
  go_wp2_with (first | (at_make; go_loud (refine wpList_make_row _ rfl _ _ 127 rfl 3 i0 (.int .i64 0) Tryd.underlying127 hi hz0 hz1 rfl _ _ (a.length + b.length + 1) rfl rfl (by rw [hz2]; omega) (by omega) ?_)))
  have hB0 : Below w.heap.size w (w.alloc (.cells (madeCells #[.int .i64 0] (a.length + b.length + 1)) 3)) := by go_grown
  generalize w.alloc (.cells (madeCells #[.int .i64 0] (a.length + b.length + 1)) 3) = w0 at *
  clear hz0 hz1 hz2 hi
  go_loopw [6] (MulOut a.length b.length a b w.heap.size w) (fun i _ => a.length - (intOf i).toNat)
  case atStart =>
    refine ⟨0, List.replicate (a.length + b.length + 1) 0, Nat.zero_le _, by simp, by simp [Dg.B], rfl, by simp [Dg.val_zeros, Dg.val], ?_, hB0⟩
    rw [List.map_replicate]; exact HL.out
  case round =>
    clear hB0 HL
    obtain ⟨i, os, hil, hol, hod, rfl, hov, hor, hb⟩ := hrel
    have HOR := Lib.hid hor; have HOD := Lib.hid hod; have HOV := Lib.hid hov; have HOL := Lib.hid hol
    clear hor hod hov hol
    by_cases hi : i < a.length
    · obtain ⟨ga, rfl, _, _⟩ := HA.out.at (by omega)
      go_wp2_with fail
      go_loopw [7, 8] (MulIn a.length b.length a b i w.heap.size w) (fun _ k _ => a.length + b.length + 1 - (intOf k).toNat)
      case atStart => exact ⟨0, 0, os, by omega, by decide, HOL.out, HOD.out, rfl, rfl, by rw [Dg.T_zero, HOV.out]; simp, HOR.out, hb⟩
      case round =>
        clear HOR HOD HOV HOL hb
        obtain ⟨k, c, os, hk, hc, hol, hod, rfl, rfl, hov, hor, hb⟩ := hrel
        have hx := Dg.getD_lt HCA.out.lt i
        have hy := Dg.getD_lt HCB.out.lt k
        have ho := Dg.getD_lt hod (i + k)
        have ca1 := (HA.out.keep hb).cell i hi
        by_cases hkb : k < b.length
        · obtain ⟨gb, rfl, _, _⟩ := HB.out.at (by omega)
          have cb1 := (HB.out.keep hb).cell k hkb
          have co1 := dig_cell hor hol (i + k) (by omega)
          have fo1 := hor.frozenAt (i + k)
          have hsum := Dg.sum_lt ho hc hx hy
          obtain ⟨x, hxx⟩ : ∃ x, a.getD i 0 = x := ⟨_, rfl⟩
          obtain ⟨y, hyy⟩ : ∃ y, b.getD k 0 = y := ⟨_, rfl⟩
          obtain ⟨o, hoo⟩ : ∃ o, os.getD (i + k) 0 = o := ⟨_, rfl⟩
          rw [hxx] at ca1 hx hsum; rw [hyy] at cb1 hy hsum; rw [hoo] at co1 ho hsum
          have HXX := Lib.hid hxx; have HYY := Lib.hid hyy; have HOO := Lib.hid hoo; have HOV := Lib.hid hov; have HOR := Lib.hid hor; have HOD := Lib.hid hod; have HOL := Lib.hid hol
          clear hxx hyy hoo hov hor hod hol
          obtain ⟨s1, s2⟩ := hsum
          unfold Dg.B at hc hx hy ho s2
          have q0 : 0 ≤ (x : Int) * (y : Int) := Int.mul_nonneg (by omega) (by omega)
          have q1 : (x : Int) * (y : Int) ≤ 99980001 := by
            have := Nat.mul_le_mul (show x ≤ 9999 by omega) (show y ≤ 9999 by omega)
            rw [← Int.natCast_mul]; omega
          have wr1 : IntKind.i64.wrap ((x : Int) * (y : Int)) = (x : Int) * (y : Int) := IntWalk.i64_in _ (by omega)
          have wr2 : IntKind.i64.wrap ((o : Int) + (c : Int) + (x : Int) * (y : Int)) = (o : Int) + (c : Int) + (x : Int) * (y : Int) := IntWalk.i64_in _ (by omega)
          go_wp2_with fail
          go_quiet (fail)
          go_wp2_with fail
          have ev : ((o : Int) + (c : Int) + (x : Int) * (y : Int)) / 10000 = (((o + c + x * y) / 10000 : Nat) : Int) := by simp
          have em : ((o : Int) + (c : Int) + (x : Int) * (y : Int)) % 10000 = (((o + c + x * y) % 10000 : Nat) : Int) := by simp
          rw [ev, em]
          have hst := Dg.mul_step (j := i + k) (c := c) (d := x * y) (by rw [HOL.out]; omega) HOV.out
          rw [HOO.out] at hst
          have hown : (wr.drewN nq).ownsRow w.heap.size 3 1 (.slice (some ⟨w.heap.size, 0, none⟩) (a.length + b.length + 1) (a.length + b.length + 1)) (a.length + b.length + 1) (os.map dg) := HOR.out
          refine ⟨⟨k + 1, (o + c + x * y) / 10000, os.set (i + k) ((o + c + x * y) % 10000), by omega, s2, by rw [List.length_set]; exact HOL.out, Dg.mem_set_lt HOD.out (Nat.mod_lt _ Dg.B_pos), rfl, rfl, ?_, ?_, (below_drewN hb nq).setCell (own_base HOR.out).1 _⟩, ?_⟩
          · rw [Dg.T_step a b i k hkb, HXX.out, HYY.out]; exact hst
          · rw [List.map_set]; exact (hown.stored (i + k) (dg ((o + c + x * y) % 10000))).1
          · simp [intOf]; omega
        · have hkb' : b.length ≤ k := by omega
          by_cases hc0 : c = 0
          · subst hc0
            have HOV := Lib.hid hov; have HOR := Lib.hid hor; have HOD := Lib.hid hod; have HOL := Lib.hid hol
            clear hov hor hod hol hx hy ho ca1
            go_wp2_with fail
            refine ⟨⟨i + 1, os, hi, HOL.out, HOD.out, rfl, ?_, HOR.out, hb⟩, by simp [intOf]; omega⟩
            have := HOV.out
            rw [Dg.T_end a b i k hi hkb'] at this
            simpa using this
          · have hik := Dg.T_carry HCA.out.lt HCB.out.lt hi hov (by omega)
            have co1 := dig_cell hor hol (i + k) (by omega)
            have fo1 := hor.frozenAt (i + k)
            obtain ⟨o, hoo⟩ : ∃ o, os.getD (i + k) 0 = o := ⟨_, rfl⟩
            rw [hoo] at co1 ho
            have HOO := Lib.hid hoo; have HOV := Lib.hid hov; have HOR := Lib.hid hor; have HOD := Lib.hid hod; have HOL := Lib.hid hol
            clear hoo hov hor hod hol hx hy ca1
            unfold Dg.B at hc ho
            go_wp2_with fail
            have ev : ((o : Int) + (c : Int)) / 10000 = (((o + c + 0) / 10000 : Nat) : Int) := by simp
            have em : ((o : Int) + (c : Int)) % 10000 = (((o + c + 0) % 10000 : Nat) : Int) := by simp
            rw [ev, em]
            have hst := Dg.mul_step (j := i + k) (c := c) (d := 0) (by rw [HOL.out]; omega) HOV.out
            rw [HOO.out] at hst
            refine ⟨⟨k + 1, (o + c + 0) / 10000, os.set (i + k) ((o + c + 0) % 10000), by omega, by unfold Dg.B; omega, by rw [List.length_set]; exact HOL.out, Dg.mem_set_lt HOD.out (Nat.mod_lt _ Dg.B_pos), rfl, rfl, ?_, ?_, hb.setCell (own_base HOR.out).1 _⟩, ?_⟩
            · rw [Dg.T_past a b i k hkb']; rw [Nat.mul_zero, Nat.add_zero] at hst; exact hst
            · rw [List.map_set]; exact (HOR.out.stored (i + k) (dg ((o + c + 0) % 10000))).1
            · simp [intOf]; omega
    · obtain rfl : i = a.length := by omega
      go_wp2_with fail
      go_loopw [5] (MulTrim (a.length + b.length + 1) os w.heap.size wr) (fun v _ => match v with | .slice _ n _ => n | _ => 0)
      case atStart => exact ⟨a.length + b.length + 1, Nat.le_refl _, rfl, by rw [List.take_of_length_le (by rw [HOL.out]; exact Nat.le_refl _)], rfl⟩
      case round =>
        obtain ⟨n, hn, rfl, hv, rfl⟩ := hrel
        have HV := Lib.hid hv; clear hv
        by_cases hn0 : n = 0
        · subst hn0
          go_wp2_with fail
          go_ret
          refine ⟨some ⟨w.heap.size, 0, none⟩, a.length + b.length + 1, os.take (0), ?_, Rd.of_own HOR.out HOL.out hn, Dg.can_take HOD.out (by rw [HOL.out]; exact hn) (.inl rfl), ?_, ?_, hb⟩
          · rw [List.length_take, HOL.out, Nat.min_eq_left hn]; try rfl
          · rw [HV.out, HOV.out, List.take_of_length_le (Nat.le_refl _)]
          · rw [List.length_take, HOL.out, Nat.min_eq_left hn]; exact hn
        · obtain ⟨m, rfl⟩ : ∃ m, n = m + 1 := ⟨n - 1, by omega⟩
          have co1 := dig_cell HOR.out HOL.out m (by omega)
          obtain ⟨o, hoo⟩ : ∃ o, os.getD m 0 = o := ⟨_, rfl⟩
          rw [hoo] at co1
          have HOO := Lib.hid hoo; clear hoo
          by_cases ho0 : o = 0
          · subst ho0
            go_wp2_with fail
            exact ⟨⟨m, by omega, rfl, by rw [Dg.trim_step (by rw [HOL.out]; exact hn) HOO.out, HV.out], rfl⟩, Nat.lt_succ_self _⟩
          · have hz : ((o : Int) == 0) = false := by simp; omega
            go_wp2_with fail
            go_ret
            refine ⟨some ⟨w.heap.size, 0, none⟩, a.length + b.length + 1, os.take (m + 1), ?_, Rd.of_own HOR.out HOL.out hn, Dg.can_take HOD.out (by rw [HOL.out]; exact hn) (.inr (by rw [Nat.add_sub_cancel, HOO.out]; exact ho0)), ?_, ?_, hb⟩
            · rw [List.length_take, HOL.out, Nat.min_eq_left hn]; try rfl
            · rw [HV.out, HOV.out, List.take_of_length_le (Nat.le_refl _)]
            · rw [List.length_take, HOL.out, Nat.min_eq_left hn]; exact hn
end Go.Proofs.YtbagmfnedgjndaaDoor
