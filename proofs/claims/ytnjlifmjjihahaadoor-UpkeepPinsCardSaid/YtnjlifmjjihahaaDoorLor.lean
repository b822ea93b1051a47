/-
  The reference's LooseOn. No condition but the length.
-/
import Derived.Test.YtnjlifmjjihahaaDoorLos
import Derived.Deep.DeepCutAuto
namespace Go.Proofs.YtnjlifmjjihahaaDoor
open Go Go.RowKit
theorem inR_bd7 {n lo hi : Int} (h : inR n lo hi = true) : lo ≤ n ∧ n ≤ hi := by unfold inR at h; exact of_decide_eq_true h
theorem bdm {a b : Int} (h0 : -100000 ≤ a) (h1 : a ≤ 100000) (h2 : 0 ≤ b) (h3 : b ≤ 100000) : -10000000000 ≤ a * b ∧ a * b ≤ 10000000000 := by
  have h4 := Int.mul_le_mul_of_nonneg_right h1 h2
  have h5 := Int.mul_le_mul_of_nonneg_right h0 h2
  omega
theorem loE_if (l : List (Int × Int)) (m : Int) : loE l m = if tqsE l ≠ 0 then tqsE l else if inR m 0 100000 = true then 0 else 2 := by
  unfold loE rgE
  by_cases h : tqsE l = 0
  · rw [h]; cases inR m 0 100000 <;> rfl
  · rw [if_pos h]; simp [orV, h]
set_option maxRecDepth 100000 in
set_option maxHeartbeats 3200000 in
theorem refLooseOn_any (l : List (Int × Int)) (a : Option Addr) (cap : Nat) (m : Int) (w : World) (hlen : l.length ≤ 1000) (hs : TqAt w a l) :
    Calls Tryd.prog 26 #[.slice a l.length cap, .int .i64 m] w fun e w' => e = .returned (.tuple #[.int .i64 (loV l m).1, .int .i64 (loV l m).2]) ∧ Below w.heap.size w w' := by
  have HS := Lib.hid hs; clear hs
  have HX := Lib.hid (loE_if l m)
  have CT := Lib.hid (fun u (hu : TqAt u a l) => refCheckTorques_any l a cap u hlen hu)
  have HE := Lib.hid (show ∃ x, tqsE l = x from ⟨_, rfl⟩)
  obtain ⟨e0, he0⟩ := HE.out
  rw [he0] at CT HX
  have H0 := Lib.hid he0; clear he0 HE
  by_cases hz : e0 = 0
  · subst hz
    cases hb : inR m 0 100000 with
    | false =>
      have hE : loE l m = 2 := by rw [HX.out, hb]; rfl
      have HV := Lib.hid (show loV l m = (0, 2) by unfold loV; rw [hE]; rfl)
      have CW := Lib.hid (fun v => Within_any m 0 100000 v)
      rw [hb] at CW
      clear hb hE HX
      go_enter Tryd.func26, Tryd.ntmps26
      go_wp2_with fail
      refine (CT.out _ HS.out).mono ?_
      rintro e w1 ⟨rfl, B1⟩
      clear CT HS
      go_wp2_with (go_at_call 44; refine (CW.out _).mono ?_; rintro e w' ⟨rfl, hw'⟩; have hw' := hw'.symm; subst hw')
      go_ret2
      exact ⟨by rw [HV.out]; rfl, B1⟩
    | true =>
      have hE : loE l m = 0 := by rw [HX.out, hb]; rfl
      have hm := inR_bd7 hb
      have CW := Lib.hid (fun v => Within_any m 0 100000 v)
      rw [hb] at CW
      clear hb HX
      by_cases h2 : l.length < 2
      · have HV := Lib.hid (show loV l m = (0, 10) by unfold loV; rw [hE, if_neg (by simp), if_pos h2])
        clear hE
        go_enter Tryd.func26, Tryd.ntmps26
        go_wp2_with fail
        refine (CT.out _ HS.out).mono ?_
        rintro e w1 ⟨rfl, B1⟩
        clear CT HS
        go_wp2_with (go_at_call 44; refine (CW.out _).mono ?_; rintro e w' ⟨rfl, hw'⟩; have hw' := hw'.symm; subst hw')
        go_ret2
        exact ⟨by rw [HV.out]; rfl, B1⟩
      · obtain ⟨n, hn⟩ : ∃ n, l.length = n + 2 := ⟨l.length - 2, by omega⟩
        obtain ⟨-, ⟨a0, a1, a2⟩, hF, hG⟩ := tqsE_ok H0.out (by omega)
        have HVV := Lib.hid (show loV l m = if 100000 < loN l m then (0, 12) else (loN l m, 0) by unfold loV; rw [hE, if_neg (by simp), if_neg h2])
        have GE := Lib.hid (show (lstT l).1 ≤ loN l m from lsN_ge a1 a2)
        have IFF := Lib.hid (show ∀ k, (lstT l).1 ≤ k → k ≤ loN l m → k ≤ 100000 → ((fstT l).2 * ((lstT l).1 - (fstT l).1) + ((lstT l).2 - (fstT l).2) * (k - (fstT l).1) ≤ m * ((lstT l).1 - (fstT l).1) ↔ loN l m ≤ k) from fun k => loose_iff a1)
        have HEN := Lib.hid (fun (u : World) (hu : TqAt u a l) => hu.ends hn)
        clear hE H0
        generalize loN l m = N at *
        generalize (fstT l).1 = x0 at *; generalize (fstT l).2 = x1 at *; generalize (lstT l).1 = y0 at *; generalize (lstT l).2 = y1 at *
        have hn1 : (2 : Int) ≤ (n : Int) + 2 := by omega
        have hn0 : (0 : Int) < (n : Int) + 2 := by omega
        have hn3 : (n : Int) + 1 < (n : Int) + 2 := by omega
        have hn4 : (0 : Int) ≤ (n : Int) + 1 := by omega
        have w1' : IntKind.i64.wrap ((n : Int) + 2 - 1) = (n : Int) + 1 := by rw [show (n : Int) + 2 - 1 = n + 1 by omega]; exact IntWalk.i64_in _ (by omega)
        rw [hn] at CT ⊢
        go_enter Tryd.func26, Tryd.ntmps26
        go_wp2_with fail
        refine (CT.out _ HS.out).mono ?_
        rintro e w1 ⟨rfl, B1⟩
        obtain ⟨b, o, rfl, hb, ⟨c0, c1⟩, c2, c3⟩ := HEN.out _ (HS.out.keep B1)
        clear CT HS HEN
        have z1 := B1.size
        go_upto_region 8 with (go_at_call 44; refine (CW.out _).mono ?_; rintro e w' ⟨rfl, hw'⟩; have hw' := hw'.symm; subst hw')
        go_cut [7, 8] (fun s7 s8 wx => ∃ n7 n8 : Nat, s7 = .pointer (some ⟨n7, 0, none⟩) ∧ s8 = .pointer (some ⟨n8, 0, none⟩) ∧ Box wx n7 #[.int .i64 x0, .int .i64 x1] 114 ∧ Box wx n8 #[.int .i64 y0, .int .i64 y1] 114 ∧ Below w.heap.size w wx)
        case first =>
          go_region
          all_goals
            go_wp2_with fail
            go_meet
            first
            | exact ⟨_, _, rfl, rfl, ((Box.new w1 _ _ rfl).alloc _).drew, (Box.new (w1.alloc _) _ _ (by simp)).drew, by (repeat' (first | (with_reducible exact Below.refl _ _) | (with_reducible assumption) | (with_reducible refine Below.drew ?_) | (with_reducible refine below_drewN ?_ _) | (with_reducible refine Below.setCell ?_ ?_ _) | (with_reducible refine Below.alloc ?_ ?_ _) | go_size | omega))⟩
            | exact ⟨_, _, rfl, rfl, (Box.new (w1.alloc _) _ _ (by simp)).drew, ((Box.new w1 _ _ rfl).alloc _).drew, by (repeat' (first | (with_reducible exact Below.refl _ _) | (with_reducible assumption) | (with_reducible refine Below.drew ?_) | (with_reducible refine below_drewN ?_ _) | (with_reducible refine Below.setCell ?_ ?_ _) | (with_reducible refine Below.alloc ?_ ?_ _) | go_size | omega))⟩
        case rest =>
          obtain ⟨n7, n8, rfl, rfl, P7, P8, BC⟩ := hcut
          clear c0 c1 c2 c3 B1 z1 hb CW
          obtain ⟨p0, p1, -⟩ := P7.two; obtain ⟨q0, q1, -⟩ := P8.two
          have l7 := P7.lt; have l8 := P8.lt
          have ge := GE.out
          go_wp2_with fail
          go_loop [9] (fun v => ∃ k : Int, v = .int .i64 k ∧ y0 ≤ k ∧ k ≤ N ∧ k ≤ 100001) (fun v => (100001 - intOf v).toNat)
          case atStart => exact ⟨y0, rfl, by omega, by omega, by omega⟩
          case round =>
            obtain ⟨k, rfl, k0, k1, k2⟩ := hrel
            by_cases hk : k ≤ 100000
            · have e1 := bdm (a := x1) (b := y0 - x0) (by omega) (by omega) (by omega) (by omega)
              have e2 := bdm (a := y1 - x1) (b := k - x0) (by omega) (by omega) (by omega) (by omega)
              have e3 := bdm (a := m) (b := y0 - x0) (by omega) (by omega) (by omega) (by omega)
              have s1 : IntKind.i64.wrap (y0 - x0) = y0 - x0 := IntWalk.i64_in _ (by omega)
              have s2 : IntKind.i64.wrap (y1 - x1) = y1 - x1 := IntWalk.i64_in _ (by omega)
              have s3 : IntKind.i64.wrap (k - x0) = k - x0 := IntWalk.i64_in _ (by omega)
              have s4 : IntKind.i64.wrap (x1 * (y0 - x0)) = x1 * (y0 - x0) := IntWalk.i64_in _ (by omega)
              have s5 : IntKind.i64.wrap ((y1 - x1) * (k - x0)) = (y1 - x1) * (k - x0) := IntWalk.i64_in _ (by omega)
              have s6 : IntKind.i64.wrap (m * (y0 - x0)) = m * (y0 - x0) := IntWalk.i64_in _ (by omega)
              have s7 : IntKind.i64.wrap (x1 * (y0 - x0) + (y1 - x1) * (k - x0)) = x1 * (y0 - x0) + (y1 - x1) * (k - x0) := IntWalk.i64_in _ (by omega)
              have v4 : wrap64 (x1 * (y0 - x0)) = x1 * (y0 - x0) := IntWalk.wrap64_in _ (by omega)
              have v5 : wrap64 ((y1 - x1) * (k - x0)) = (y1 - x1) * (k - x0) := IntWalk.wrap64_in _ (by omega)
              have v6 : wrap64 (m * (y0 - x0)) = m * (y0 - x0) := IntWalk.wrap64_in _ (by omega)
              have v7 : wrap64 (x1 * (y0 - x0) + (y1 - x1) * (k - x0)) = x1 * (y0 - x0) + (y1 - x1) * (k - x0) := IntWalk.wrap64_in _ (by omega)
              have hi := IFF.out k k0 k1 hk
              by_cases hP : x1 * (y0 - x0) + (y1 - x1) * (k - x0) ≤ m * (y0 - x0)
              · have hN := hi.1 hP
                obtain rfl : k = N := by omega
                have HW := Lib.hid (show loV l m = (k, 0) by rw [HVV.out, if_neg (by omega)])
                clear hi e1 e2 e3
                go_wp2_with fail
                go_ret2
                exact ⟨by rw [HW.out]; rfl, BC⟩
              · have hN : ¬ N ≤ k := fun h => hP (hi.2 h)
                clear hi e1 e2 e3
                go_wp2_with fail
                go_round
                case rel => exact ⟨k + 1, by go_num, by omega, by omega, by omega⟩
                case measure => simp [intOf]; omega
            · have HW := Lib.hid (show loV l m = (0, 12) by rw [HVV.out, if_pos (by omega)])
              go_wp2_with fail
              go_ret2
              exact ⟨by rw [HW.out]; rfl, BC⟩
  · have HV := Lib.hid (show loV l m = (0, e0) by unfold loV; rw [HX.out, if_pos hz, if_pos hz])
    have hz' : (e0 != 0) = true := by simpa using hz
    clear HX hz
    go_enter Tryd.func26, Tryd.ntmps26
    go_wp2_with fail
    refine (CT.out _ HS.out).mono ?_
    rintro e w1 ⟨rfl, B1⟩
    go_wp2_with fail
    go_ret2
    exact ⟨by rw [HV.out]; rfl, B1⟩
end Go.Proofs.YtnjlifmjjihahaaDoor
