/-
  The law UpkeepPasses and its reference. No condition but the primes.
-/
import Derived.Test.YtnjlifmjjihahaaDoorAw7
import Derived.StillTailTactics
namespace Go.Proofs.YtnjlifmjjihahaaDoor
open Go.RowKit
theorem missing7_any (n : Int) (w : World) : Calls Tryd.prog 73 #[.int .i64 n] w fun e w' => e = .returned (.bool (inR n 0 200000)) ∧ w' = w := by
  go_enter Tryd.func73, Tryd.ntmps73
  go_wp2_with (go_at_call 44; refine (Within_any _ _ _ _).mono ?_; rintro e w' ⟨rfl, rfl⟩)
  go_ret
  exact ⟨rfl, rfl⟩
theorem paE_if (m d t : Int) : paE m d t = if inR m 0 200000 = true ∧ inR d 0 999 = true ∧ inR t 0 200000 = true then 0 else 2 := by
  unfold paE
  cases inR m 0 200000 <;> cases inR d 0 999 <;> cases inR t 0 200000 <;> rfl
set_option maxRecDepth 100000 in
set_option maxHeartbeats 1600000 in
theorem refPasses_any (m d t : Int) (w : World) : Calls Tryd.prog 17 #[.int .i64 m, .int .i64 d, .int .i64 t] w fun e w' => e = .returned (.tuple #[.int .i64 (paV m d t).1, .int .i64 (paV m d t).2]) ∧ Below w.heap.size w w' := by
  by_cases hz : inR m 0 200000 = true ∧ inR d 0 999 = true ∧ inR t 0 200000 = true
  · have HV := Lib.hid (show paV m d t = psF d t (m.toNat + 1) m 0 by unfold paV; rw [if_pos (by rw [paE_if, if_pos hz])])
    obtain ⟨b0, b1, b2⟩ := hz
    have ⟨m0, m1⟩ := inR_bd b0
    have ⟨d0, d1⟩ := inR_bd b1
    have ⟨t0, t1⟩ := inR_bd b2
    have CMs := Lib.hid (fun v => missing7_any m v); have CD := Lib.hid (fun v => Within_any d 0 999 v); have CT := Lib.hid (fun v => missing7_any t v)
    rw [b0] at CMs; rw [b1] at CD; rw [b2] at CT
    clear b0 b1 b2
    go_enter Tryd.func17, Tryd.ntmps17
    go_wp2_with (first
      | (go_at_call 44; refine (CD.out _).mono ?_; rintro e w' ⟨rfl, rfl⟩)
      | (go_at_call 73; first | (refine (CMs.out _).mono ?_; rintro e w' ⟨rfl, rfl⟩) | (refine (CT.out _).mono ?_; rintro e w' ⟨rfl, rfl⟩)))
    go_loop [0, 8] (PsL d t m) (fun x _ => (intOf x).toNat)
    case atStart => exact ⟨m.toNat + 1, m, 0, rfl, rfl, ⟨m0, m1⟩, by omega, by omega, Lib.hid rfl⟩
    case round =>
      obtain ⟨k, x, n, rfl, rfl, ⟨x0, x1⟩, hk, ⟨n0, n1⟩, HP⟩ := hrel
      obtain ⟨j, rfl⟩ : ∃ j, k = j + 1 := ⟨k - 1, by omega⟩
      by_cases hlt : t < x
      · have hu := up_le x0 d0 d1
        obtain ⟨u0, u1⟩ := hu
        have hm : 0 ≤ x * d ∧ x * d ≤ 200000 * 999 := ⟨Int.mul_nonneg x0 d0, Int.mul_le_mul x1 d1 d0 (by omega)⟩
        obtain ⟨q0, q1⟩ := hm
        have wm : IntKind.i64.wrap (x * d) = x * d := IntWalk.i64_in _ (by omega)
        have wm2 : wrap64 (x * d) = x * d := IntWalk.wrap64_in _ (by omega)
        have CU := Lib.hid (fun v => Ceil_any (x * d) 1000 v (by omega) (by omega) (by omega) (by omega))
        have HY := Lib.hid (show ∃ y, up (x * d) 1000 = y from ⟨_, rfl⟩)
        obtain ⟨y, hy⟩ := HY.out
        rw [hy] at CU u0 u1
        have HPS := Lib.hid (show psF d t (j + 1) x n = if y = x then (0, 12) else psF d t j y (n + 1) by show (if t < x then _ else _) = _; rw [if_pos hlt, hy])
        clear hy HY
        by_cases hf : y = x
        · subst hf
          go_wp2_with (go_at_call 74; refine (CU.out _).mono ?_; rintro e w' ⟨rfl, rfl⟩)
          go_ret2
          exact ⟨by rw [HV.out, HP.out, HPS.out]; simp, Below.refl _ _⟩
        · have hf' : (y == x) = false := by simpa using hf
          have HF := Lib.hid hf
          have hlt2 : y < x := by omega
          clear hf
          go_wp2_with (go_at_call 74; refine (CU.out _).mono ?_; rintro e w' ⟨rfl, rfl⟩)
          go_round
          case rel => exact ⟨j, y, n + 1, rfl, by go_num, ⟨u0, by omega⟩, by omega, by omega, Lib.hid (by rw [HP.out, HPS.out, if_neg HF.out])⟩
          case measure => simp [intOf]; omega
      · have HPS := Lib.hid (show psF d t (j + 1) x n = (n, 0) by show (if t < x then _ else _) = _; rw [if_neg hlt])
        go_wp2_with fail
        go_ret2
        exact ⟨by rw [HV.out, HP.out, HPS.out]; rfl, Below.refl _ _⟩
  · have HV := Lib.hid (show paV m d t = (0, 2) by unfold paV; rw [paE_if, if_neg hz]; rfl)
    have HZ := Lib.hid hz; clear hz
    have CMs := Lib.hid (fun v => missing7_any m v); have CD := Lib.hid (fun v => Within_any d 0 999 v); have CT := Lib.hid (fun v => missing7_any t v)
    cases b0 : inR m 0 200000 with
    | false =>
      rw [b0] at CMs
      clear b0 CD CT
      go_enter Tryd.func17, Tryd.ntmps17
      go_wp2_with (go_at_call 73; refine (CMs.out _).mono ?_; rintro e w' ⟨rfl, rfl⟩)
      go_ret2
      exact ⟨by rw [HV.out]; rfl, Below.refl _ _⟩
    | true =>
      rw [b0] at CMs
      cases b1 : inR d 0 999 with
      | false =>
        rw [b1] at CD
        clear b0 b1 CT
        go_enter Tryd.func17, Tryd.ntmps17
        go_wp2_with (first
          | (go_at_call 44; refine (CD.out _).mono ?_; rintro e w' ⟨rfl, rfl⟩)
          | (go_at_call 73; refine (CMs.out _).mono ?_; rintro e w' ⟨rfl, rfl⟩))
        go_ret2
        exact ⟨by rw [HV.out]; rfl, Below.refl _ _⟩
      | true =>
        have b2 : inR t 0 200000 = false := by
          cases b2 : inR t 0 200000 with
          | false => rfl
          | true => exact absurd ⟨b0, b1, b2⟩ HZ.out
        rw [b1] at CD; rw [b2] at CT
        clear b0 b1 b2
        go_enter Tryd.func17, Tryd.ntmps17
        go_wp2_with (first
          | (go_at_call 44; refine (CD.out _).mono ?_; rintro e w' ⟨rfl, rfl⟩)
          | (go_at_call 73; first | (refine (CMs.out _).mono ?_; rintro e w' ⟨rfl, rfl⟩) | (refine (CT.out _).mono ?_; rintro e w' ⟨rfl, rfl⟩)))
        go_ret2
        exact ⟨by rw [HV.out]; rfl, Below.refl _ _⟩
set_option maxRecDepth 100000 in
set_option maxHeartbeats 1600000 in
theorem lawPasses (m d t : Int) (w : World) (hp : PrimesT w) : Calls Tryd.prog 3 #[.int .i64 m, .int .i64 d, .int .i64 t] w fun e w' => e = .returned (.bool true) ∧ Below w.heap.size w w' := by
  have AW := Lib.hid (awake7_any w hp); clear hp
  have HX := Lib.hid (show ∃ n e, paV m d t = (n, e) from ⟨_, _, rfl⟩)
  obtain ⟨n, e0, hne⟩ := HX.out
  have CP := Lib.hid (fun u => passes_any m d t u)
  have CR := Lib.hid (fun u => refPasses_any m d t u)
  rw [hne] at CP CR
  have HN := Lib.hid hne; clear hne HX
  go_enter Tryd.func3, Tryd.ntmps3
  go_wp2_with fail
  refine AW.out.mono ?_
  rintro e w1 ⟨rfl, B1⟩
  clear AW
  have z1 := B1.size
  go_wp2_with fail
  refine (CP.out _).mono ?_
  rintro e w2 ⟨rfl, h2⟩
  have B2 : Below w.heap.size w w2 := below_via B1 h2
  have z2 := B2.size
  clear h2 B1 CP
  go_wp2_with fail
  refine (CR.out _).mono ?_
  rintro e w3 ⟨rfl, h3⟩
  have B3 : Below w.heap.size w w3 := below_via B2 h3
  have z3 := B3.size
  clear h3 B2 CR
  by_cases he : e0 = 0
  · subst he
    by_cases hm : m = 0
    · subst hm
      go_wp2_with fail
      go_ret
      exact ⟨rfl, B3⟩
    · have hpe : paE m d t = 0 := by
        have h := HN.out
        unfold paV at h
        by_cases c : paE m d t = 0
        · exact c
        · rw [if_neg c] at h; exact absurd (congrArg Prod.snd h) c
      obtain ⟨⟨m0, m1⟩, ⟨d0, d1⟩, t0, t1⟩ := paE_ok hpe
      have hps : psF d t (m.toNat + 1) m 0 = (n, 0) := by have h := HN.out; unfold paV at h; rwa [if_pos hpe] at h
      obtain ⟨r', h1, h2⟩ := psF_mono d t d0 d1 _ _ _ _ m0 hps ((m - 1).toNat + 1) (m - 1) 0 (by omega) (by omega) (by omega)
      have hpe2 : paE (m - 1) d t = 0 := by
        rw [paE_if] at hpe ⊢
        by_cases c : inR m 0 200000 = true ∧ inR d 0 999 = true ∧ inR t 0 200000 = true
        · rw [if_pos ⟨by unfold inR; exact decide_eq_true ⟨by omega, by omega⟩, c.2.1, c.2.2⟩]
        · rw [if_neg c] at hpe; omega
      have CP2 := Lib.hid (fun u => passes_any (m - 1) d t u)
      rw [show paV (m - 1) d t = (r', 0) by unfold paV; rw [if_pos hpe2, h1]] at CP2
      have hle : r' ≤ n := by omega
      have wm : IntKind.i64.wrap (m - 1) = m - 1 := IntWalk.i64_in _ (by omega)
      have hm' : (m == 0) = false := by simpa using hm
      clear hps h1 h2 hpe hpe2
      go_wp2_with fail
      refine (CP2.out _).mono ?_
      rintro e w4 ⟨rfl, h4⟩
      have B4 : Below w.heap.size w w4 := below_via B3 h4
      clear h4 CP2
      go_wp2_with fail
      go_ret
      exact ⟨by simp, B4⟩
  · have he' : (e0 != 0) = true := by simpa using he
    go_wp2_with fail
    go_ret
    exact ⟨rfl, B3⟩
end Go.Proofs.YtnjlifmjjihahaaDoor
