/-
  Passes of a pitch raise: upkeep.Passes and its reference. No condition.
-/
import Derived.Test.YtnjlifmjjihahaaDoorCor
import Derived.StillTailTactics
namespace Go.Proofs.YtnjlifmjjihahaaDoor
open Go.RowKit
theorem up_spec (x : Int) : x ≤ 1000 * up x 1000 ∧ 1000 * up x 1000 < x + 1000 := by unfold up dn; omega
/-- passes from m on, n of them done: their number and the error -/
def psF (d t : Int) : Nat → Int → Int → Int × Int
  | 0, _, _ => (0, 12)
  | k + 1, m, n => if t < m then (if up (m * d) 1000 = m then (0, 12) else psF d t k (up (m * d) 1000) (n + 1)) else (n, 0)
theorem up_le {m d : Int} (h0 : 0 ≤ m) (hd0 : 0 ≤ d) (hd1 : d ≤ 999) : 0 ≤ up (m * d) 1000 ∧ up (m * d) 1000 ≤ m := by
  have h1 : m * d ≤ m * 1000 := Int.mul_le_mul_of_nonneg_left (by omega) h0
  have h2 : 0 ≤ m * d := Int.mul_nonneg h0 hd0
  have := up_spec (m * d)
  omega
theorem up_mono {a b : Int} (h : a ≤ b) : up a 1000 ≤ up b 1000 := by
  have h1 := up_spec a; have h2 := up_spec b
  omega
theorem psF_ge (d t : Int) : ∀ (k : Nat) (m n r : Int), psF d t k m n = (r, 0) → n ≤ r
  | 0, m, n, r, h => by simp [psF] at h
  | k + 1, m, n, r, h => by
    unfold psF at h
    by_cases h1 : t < m
    · rw [if_pos h1] at h
      by_cases h2 : up (m * d) 1000 = m
      · rw [if_pos h2] at h; simp at h
      · rw [if_neg h2] at h
        have := psF_ge d t k _ _ _ h
        omega
    · rw [if_neg h1] at h
      have : n = r := by simpa using h
      omega
theorem psF_mono (d t : Int) (hd0 : 0 ≤ d) (hd1 : d ≤ 999) : ∀ (k : Nat) (b n r : Int), 0 ≤ b → psF d t k b n = (r, 0) → ∀ (j : Nat) (a n' : Int), 0 ≤ a → a ≤ b → a < j → ∃ r', psF d t j a n' = (r', 0) ∧ r' - n' ≤ r - n
  | 0, b, n, r, _, h, _, _, _, _, _, _ => by simp [psF] at h
  | k + 1, b, n, r, hb, h, 0, a, n', ha, _, hj => by omega
  | k + 1, b, n, r, hb, h, j + 1, a, n', ha, hab, hj => by
    unfold psF at h ⊢
    by_cases hbt : t < b
    · rw [if_pos hbt] at h
      by_cases hf : up (b * d) 1000 = b
      · rw [if_pos hf] at h; simp at h
      · rw [if_neg hf] at h
        have hb2 := up_le hb hd0 hd1
        by_cases hat : t < a
        · rw [if_pos hat]
          have ha2 := up_le ha hd0 hd1
          have hm : up (a * d) 1000 ≤ up (b * d) 1000 := up_mono (Int.mul_le_mul_of_nonneg_right hab hd0)
          by_cases hfa : up (a * d) 1000 = a
          · exfalso
            obtain ⟨r', h1, _⟩ := psF_mono d t hd0 hd1 k _ _ _ hb2.1 h (j + 1) a 0 ha (by omega) (by omega)
            unfold psF at h1
            rw [if_pos hat, if_pos hfa] at h1
            simp at h1
          · rw [if_neg hfa]
            obtain ⟨r', h1, h2⟩ := psF_mono d t hd0 hd1 k _ _ _ hb2.1 h j _ (n' + 1) ha2.1 hm (by omega)
            exact ⟨r', h1, by omega⟩
        · rw [if_neg hat]
          refine ⟨n', rfl, ?_⟩
          have := psF_ge d t k _ _ _ h
          omega
    · rw [if_neg hbt] at h
      rw [if_neg (by omega)]
      have : n = r := by simpa using h
      exact ⟨n', rfl, by omega⟩
/-- the error of the arguments, and the answer -/
def paE (m d t : Int) : Int := if inR m 0 200000 && (inR d 0 999 && inR t 0 200000) then 0 else 2
def paV (m d t : Int) : Int × Int := if paE m d t = 0 then psF d t (m.toNat + 1) m 0 else (0, paE m d t)
theorem paE_or (m d t : Int) : orV [rgE m 0 200000, rgE d 0 999, rgE t 0 200000] = paE m d t := by
  unfold paE rgE
  cases inR m 0 200000 <;> cases inR d 0 999 <;> cases inR t 0 200000 <;> rfl
theorem inR_bd {n lo hi : Int} (h : inR n lo hi = true) : lo ≤ n ∧ n ≤ hi := by unfold inR at h; exact of_decide_eq_true h
theorem paE_ok {m d t : Int} (h : paE m d t = 0) : (0 ≤ m ∧ m ≤ 200000) ∧ (0 ≤ d ∧ d ≤ 999) ∧ 0 ≤ t ∧ t ≤ 200000 := by
  unfold paE at h
  by_cases c : (inR m 0 200000 && (inR d 0 999 && inR t 0 200000)) = true
  · simp only [Bool.and_eq_true] at c
    exact ⟨inR_bd c.1, inR_bd c.2.1, inR_bd c.2.2⟩
  · rw [if_neg c] at h; omega
/-- the loop's state -/
def PsL (d t m0 : Int) (v0 v1 : Value) : Prop := ∃ (k : Nat) (m n : Int), v0 = .int .i64 m ∧ v1 = .int .i64 n ∧ (0 ≤ m ∧ m ≤ 200000) ∧ m < k ∧ (0 ≤ n ∧ n + m ≤ 200000) ∧ Hid (psF d t (m0.toNat + 1) m0 0 = psF d t k m n)
set_option maxRecDepth 100000 in
set_option maxHeartbeats 1600000 in
theorem passes_any (m d t : Int) (w : World) : Calls Tryd.prog 16 #[.int .i64 m, .int .i64 d, .int .i64 t] w fun e w' => e = .returned (.tuple #[.int .i64 (paV m d t).1, .int .i64 (paV m d t).2]) ∧ Below w.heap.size w w' := by
  have HE := Lib.hid (show ∃ x, paE m d t = x from ⟨_, rfl⟩)
  obtain ⟨e0, he0⟩ := HE.out
  have CO := Lib.hid (fun v b (h : RowAt v b [rgE m 0 200000, rgE d 0 999, rgE t 0 200000]) => (show Calls Tryd.prog 70 #[.slice (some ⟨b, 0, none⟩) 3 3] v fun e w' => e = .returned (.int .i64 e0) ∧ w' = v from by
    have h := or_any b 3 [rgE m 0 200000, rgE d 0 999, rgE t 0 200000] v (by simp) h
    rw [paE_or, he0] at h
    exact h))
  have H0 := Lib.hid he0; clear he0 HE
  go_enter Tryd.func16, Tryd.ntmps16
  go_wp2_with (go_at_call 71; refine (rangeError_any _ _ _ _).mono ?_; rintro e w' ⟨rfl, hw'⟩; have hw' := hw'.symm; subst hw')
  refine (CO.out (w.alloc (.cells #[.int .i64 (rgE m 0 200000), .int .i64 (rgE d 0 999), .int .i64 (rgE t 0 200000)] 23)) w.heap.size (RowAt.of_box (Box.new w _ 23 (n := w.heap.size) rfl))).mono ?_
  rintro e w' ⟨rfl, rfl⟩
  have B1 : Below w.heap.size w (w.alloc (.cells #[.int .i64 (rgE m 0 200000), .int .i64 (rgE d 0 999), .int .i64 (rgE t 0 200000)] 23)) := by (repeat' (first | (with_reducible exact Below.refl _ _) | (with_reducible assumption) | (with_reducible refine Below.drew ?_) | (with_reducible refine below_drewN ?_ _) | (with_reducible refine Below.setCell ?_ ?_ _) | (with_reducible refine Below.alloc ?_ ?_ _) | go_size | omega))
  generalize (w.alloc (.cells #[.int .i64 (rgE m 0 200000), .int .i64 (rgE d 0 999), .int .i64 (rgE t 0 200000)] 23)) = u at *
  clear CO
  by_cases hz : e0 = 0
  · subst hz
    obtain ⟨⟨m0, m1⟩, ⟨d0, d1⟩, t0, t1⟩ := paE_ok H0.out
    have HV := Lib.hid (show paV m d t = psF d t (m.toNat + 1) m 0 by unfold paV; rw [if_pos H0.out])
    go_wp2_with fail
    go_loop [0, 9] (PsL d t m) (fun x _ => (intOf x).toNat)
    case atStart => exact ⟨m.toNat + 1, m, 0, rfl, rfl, ⟨m0, m1⟩, by omega, by omega, Lib.hid rfl⟩
    case round =>
      obtain ⟨k, x, n, rfl, rfl, ⟨x0, x1⟩, hk, ⟨n0, n1⟩, HP⟩ := hrel
      obtain ⟨j, rfl⟩ : ∃ j, k = j + 1 := ⟨k - 1, by omega⟩
      by_cases hlt : t < x
      · have hu := up_le x0 d0 d1
        obtain ⟨u0, u1⟩ := hu
        have hm : 0 ≤ x * d ∧ x * d ≤ 200000 * 999 := ⟨Int.mul_nonneg x0 d0, Int.mul_le_mul x1 d1 d0 (by omega)⟩
        obtain ⟨q0, q1⟩ := hm
        have wm : IntKind.i64.wrap (x * d) = x * d := IntWalk.i64_in _ (by omega)
        have wm2 : wrap64 (x * d) = x * d := IntWalk.wrap64_in _ (by omega)
        have CU := Lib.hid (fun v => up_any (x * d) 1000 v (by omega) (by omega) (by omega) (by omega))
        have HY := Lib.hid (show ∃ y, up (x * d) 1000 = y from ⟨_, rfl⟩)
        obtain ⟨y, hy⟩ := HY.out
        rw [hy] at CU u0 u1
        have HPS := Lib.hid (show psF d t (j + 1) x n = if y = x then (0, 12) else psF d t j y (n + 1) by show (if t < x then _ else _) = _; rw [if_pos hlt, hy])
        clear hy HY
        by_cases hf : y = x
        · subst hf
          go_wp2_with (go_at_call 72; refine (CU.out _).mono ?_; rintro e w' ⟨rfl, rfl⟩)
          go_ret2
          exact ⟨by rw [HV.out, HP.out, HPS.out]; simp, B1⟩
        · have hf' : (y == x) = false := by simpa using hf
          have HF := Lib.hid hf; 
          have hlt2 : y < x := by omega
          clear hf
          go_wp2_with (go_at_call 72; refine (CU.out _).mono ?_; rintro e w' ⟨rfl, rfl⟩)
          go_round
          case rel => exact ⟨j, y, n + 1, rfl, by go_num, ⟨u0, by omega⟩, by omega, by omega, Lib.hid (by rw [HP.out, HPS.out, if_neg HF.out])⟩
          case measure => simp [intOf]; omega
      · have HPS := Lib.hid (show psF d t (j + 1) x n = (n, 0) by show (if t < x then _ else _) = _; rw [if_neg hlt])
        go_wp2_with fail
        go_ret2
        exact ⟨by rw [HV.out, HP.out, HPS.out]; rfl, B1⟩
  · have hz' : (e0 != 0) = true := by simpa using hz
    have HV := Lib.hid (show paV m d t = (0, e0) by unfold paV; rw [if_neg (by rw [H0.out]; exact hz), H0.out])
    have HZ := Lib.hid hz; clear hz
    go_wp2_with fail
    go_ret2
    exact ⟨by rw [HV.out]; rfl, B1⟩
end Go.Proofs.YtnjlifmjjihahaaDoor
