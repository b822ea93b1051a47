/-
  The walks of the reference's of and pow: a number as a natural in digits, and the power of a natural.
-/
import Derived.Test.YtbagmfnedgjndaaDoorRmu
namespace Go.Proofs.YtbagmfnedgjndaaDoor
open Go.RowKit
/-- behind some digits -/
def OfRel (N : Nat) (w : World) (vn vo : Value) (wr : World) : Prop :=
  ∃ (n cap : Nat) (os : List Nat) (a : Option Addr), vn = .int .i64 (n : Int) ∧ n ≤ N ∧ vo = .slice a os.length cap ∧ Dg.val os + Dg.B ^ os.length * n = N ∧ (∀ x ∈ os, x < Dg.B) ∧ (0 < os.length → Dg.B ^ (os.length - 1) ≤ N) ∧
    wr.ownsRow w.heap.size 3 1 (.slice a os.length cap) os.length (os.map dg) ∧ Below w.heap.size w wr
theorem of_len {l N : Nat} (h : 0 < l → Dg.B ^ (l - 1) ≤ N) (hN : N ≤ 1152921504606846976) : l ≤ 5 := by
  rcases Nat.lt_or_ge 5 l with h' | h'
  · have h1 := h (by omega)
    have h2 : Dg.B ^ 5 ≤ Dg.B ^ (l - 1) := Nat.pow_le_pow_right Dg.B_pos (by omega)
    have h3 : Dg.B ^ 5 = 100000000000000000000 := by decide
    omega
  · exact h'
theorem of_step {N v l n : Nat} (h : v + Dg.B ^ l * n = N) : v + Dg.B ^ l * (n % 10000) + Dg.B ^ (l + 1) * (n / 10000) = N := by
  have h1 : Dg.B ^ l * (n % 10000) + Dg.B ^ (l + 1) * (n / 10000) = Dg.B ^ l * n := by
    rw [Nat.pow_succ, Nat.mul_assoc, ← Nat.mul_add]; congr 1
    unfold Dg.B; omega
  omega
theorem own_block_ge {w : World} {base e size n k : Nat} {v : Value} {xs : List Value} (h : w.ownsRow base e size v n xs) (hk : v.ownBlock = some k) : base ≤ k := by
  obtain ⟨_, ⟨h2, _⟩ | ⟨g', cap', cur, hv, hg, _⟩⟩ := h
  · subst h2; simp [Value.ownBlock] at hk
  · subst hv; simp [Value.ownBlock] at hk; omega
set_option maxRecDepth 100000 in
set_option maxHeartbeats 800000 in
theorem rof_any (n : Nat) (w : World) (hn : n ≤ 1152921504606846976) :
    Calls Tryd.prog 101 #[.int .i64 (n : Int)] w (RnPost n 5 w) := by
  obtain ⟨i0, hi, hz0, hz1, hz2⟩ := info_parts info3
  go_enter Tryd.func101, Tryd.ntmps101
  go_wp2_with fail
  go_loopw [0, 3] (OfRel n w) (fun v _ _ => (intOf v).toNat)
  case atStart => exact ⟨n, 0, [], none, rfl, Nat.le_refl _, rfl, by simp [Dg.val], by simp, by simp, World.ownsRow_nil _ _ _ _, Below.refl _ _⟩
  case round =>
    obtain ⟨m, cap, os, ad, rfl, hmn, rfl, hv, hd, hl, hor, hb⟩ := hrel
    have h5 := of_len hl hn
    have HV := Lib.hid hv; have HD := Lib.hid hd; have HOR := Lib.hid hor; have HL := Lib.hid hl
    clear hv hd hor hl
    by_cases hm : m = 0
    · subst hm
      go_wp2_with fail
      go_ret
      refine ⟨ad, cap, os, rfl, ?_, ⟨HD.out, fun h0 => ?_⟩, by simpa using HV.out, h5, hb⟩
      · rcases Nat.eq_zero_or_pos os.length with h0 | h0
        · exact .inl (List.length_eq_zero_iff.1 h0)
        · obtain ⟨g, cap', he, _⟩ := own_shape HOR.out h0
          cases he
          have := Rd.of_own HOR.out rfl (Nat.le_refl _)
          rwa [List.take_of_length_le (Nat.le_refl _)] at this
      · have := HV.out
        rw [Nat.mul_zero, Nat.add_zero] at this
        rw [this]; exact HL.out h0
    · have hbs := hb.size
      have em : (m : Int) % 10000 = ((m % 10000 : Nat) : Int) := by simp
      have eq : (m : Int) / 10000 = ((m / 10000 : Nat) : Int) := by simp
      have HE := Lib.hid em; have HQ := Lib.hid eq
      clear em eq
      go_wp2_with (at_builtin; refine wpList_append_own _ rfl _ _ 127 rfl w.heap.size 3 i0 (.int .i64 0) 1 8 Tryd.underlying127 hi hz0 hz1 hz2 rfl (by decide) _ _ _ rfl (HOR.out.alloc _) ⟨wr.heap.size, 0, none⟩ 1 1 [.int .i64 ((m : Int) % 10000)] rfl rfl ?c1 ?c2 ?c3 ?c4 ?c5 ?_)
      case c1 =>
        intro j u hj
        match j, hj with
        | 0, hj => simp at hj; subst hj; simp [Addr.add]
      case c2 => intro u hu; simp at hu; subst hu; rfl
      case c3 => unfold maxLen; omega
      case c4 => omega
      case c5 => simp; omega
      intro v' w1 hown' hgrow _
      go_wp2_with fail
      rw [HQ.out]
      rw [HE.out] at hown'
      obtain ⟨g', cap', rfl, _⟩ := own_shape hown' (by omega)
      refine ⟨⟨m / 10000, cap', os ++ [m % 10000], some ⟨g', 0, none⟩, rfl, by omega, by simp, ?_, ?_, ?_, by simpa [dg] using hown', (hb.alloc (by omega) _).grown hgrow (by simp; omega) (fun k hk => ?_)⟩, ?_⟩
      · rw [Dg.val_append, List.length_append, List.length_singleton]
        simp only [Dg.val, Nat.mul_zero, Nat.add_zero]
        exact of_step HV.out
      · intro x hx
        rcases List.mem_append.1 hx with h' | h'
        · exact HD.out x h'
        · simp at h'; subst h'; exact Nat.mod_lt _ (by decide)
      · intro _
        rw [List.length_append, List.length_singleton, Nat.add_sub_cancel]
        have h1 := HV.out
        have h2 : Dg.B ^ os.length * 1 ≤ Dg.B ^ os.length * m := Nat.mul_le_mul_left _ (by omega)
        omega
      · have := own_block_ge HOR.out hk
        omega
      · simp [intOf]; omega

theorem pow_odd {o x K N : Nat} (h : o * x ^ K = N) (h1 : K % 2 = 1) : o * x * (x * x) ^ (K / 2) = N := by
  rw [← h]
  conv => rhs; rw [show K = 2 * (K / 2) + 1 by omega, Nat.pow_succ, Nat.pow_mul]
  rw [show x ^ 2 = x * x by rw [Nat.pow_succ, Nat.pow_one], Nat.mul_assoc, Nat.mul_comm x]
theorem pow_even {o x K N : Nat} (h : o * x ^ K = N) (h1 : K % 2 = 0) : o * (x * x) ^ (K / 2) = N := by
  rw [← h]
  conv => rhs; rw [show K = 2 * (K / 2) by omega, Nat.pow_mul]
  rw [show x ^ 2 = x * x by rw [Nat.pow_succ, Nat.pow_one]]
theorem len_odd {lo lx K M : Nat} (h : lo + (lx + 1) * K ≤ M) (h1 : K % 2 = 1) : lo + lx + 1 + (lx + lx + 1 + 1) * (K / 2) ≤ M := by
  have : (lx + lx + 1 + 1) * (K / 2) + (lx + 1) = (lx + 1) * K := by
    rw [show lx + lx + 1 + 1 = (lx + 1) * 2 by omega, Nat.mul_assoc]
    conv => rhs; rw [show K = 2 * (K / 2) + 1 by omega, Nat.mul_add]
    omega
  omega
theorem len_even {lo lx K M : Nat} (h : lo + (lx + 1) * K ≤ M) (h1 : K % 2 = 0) : lo + (lx + lx + 1 + 1) * (K / 2) ≤ M := by
  have : (lx + lx + 1 + 1) * (K / 2) = (lx + 1) * K := by
    rw [show lx + lx + 1 + 1 = (lx + 1) * 2 by omega, Nat.mul_assoc]
    conv => rhs; rw [show K = 2 * (K / 2) by omega]
  omega
def RpRel (N M : Nat) (w : World) (vx vk vo : Value) (wr : World) : Prop :=
  ∃ (K cx co : Nat) (xs os : List Nat) (ax ao : Option Addr), vk = .int .i64 (K : Int) ∧ K ≤ 1073741824 ∧ vx = .slice ax xs.length cx ∧ vo = .slice ao os.length co ∧ Rd wr ax xs ∧ Rd wr ao os ∧ Dg.Can xs ∧ Dg.Can os ∧
    Dg.val os * Dg.val xs ^ K = N ∧ os.length + (xs.length + 1) * K ≤ M ∧ Below w.heap.size w wr
theorem can_mono {xs zs : List Nat} {n : Nat} (h : zs.length ≤ xs.length + xs.length + 1) : (zs.length + 1) * n ≤ (xs.length + xs.length + 1 + 1) * n := Nat.mul_le_mul_right _ (by omega)
set_option maxRecDepth 100000 in
set_option maxHeartbeats 800000 in
theorem rpow_any (ax : Option Addr) (cx : Nat) (xs : List Nat) (k : Nat) (w : World) (hx : Rd w ax xs) (hc : Dg.Can xs) (hk : k ≤ 100000) (hl : xs.length ≤ 1000) :
    Calls Tryd.prog 100 #[.slice ax xs.length cx, .int .i64 (k : Int)] w (RnPost (Dg.val xs ^ k) (1 + (xs.length + 1) * k) w) := by
  have hM : (xs.length + 1) * k ≤ 1001 * 100000 := Nat.mul_le_mul (by omega) hk
  generalize hMM : 1 + (xs.length + 1) * k = M
  have hM1 : M ≤ 1000000000 := by omega
  have HX := Lib.hid hx; have HC := Lib.hid hc; have HM := Lib.hid hMM
  clear hx hc hMM hM
  go_enter Tryd.func100, Tryd.ntmps100
  go_wp2_with fail
  go_loopw [0, 1, 5] (RpRel (Dg.val xs ^ k) M w) (fun _ v _ _ => (intOf v).toNat)
  case atStart =>
    refine ⟨k, cx, 1, xs, [1], ax, some ⟨w.heap.size, 0, none⟩, rfl, by omega, rfl, rfl, HX.out.keep (by go_grown), ?_, HC.out, Dg.can_one, by rw [Dg.val_one, Nat.one_mul], by rw [← HM.out]; simp, by go_grown⟩
    have h := World.ownsRow_lit (e := 3) (size := 1) (base := w.heap.size) w #[.int .i64 (1 : Int)] 1 (Nat.le_refl _) (by decide) (by simp)
    have := Rd.of_own (xs := [1]) (m := 1) (by simpa [dg] using h) rfl (Nat.le_refl _)
    simpa using this
  case round =>
    obtain ⟨K, cx, co, zs, os, ax, ao, rfl, hK, rfl, rfl, hrx, hro, hcx, hco, hv, hm, hb⟩ := hrel
    have HRX := Lib.hid hrx; have HRO := Lib.hid hro; have HCX := Lib.hid hcx; have HCO := Lib.hid hco; have HV := Lib.hid hv
    clear hrx hro hcx hco hv
    by_cases hK0 : K = 0
    · subst hK0
      go_wp2_with fail
      go_ret
      exact ⟨ao, co, os, rfl, HRO.out, HCO.out, by simpa using HV.out, by simpa using hm, hb⟩
    · have hlz : zs.length + 1 ≤ M := by
        have : (zs.length + 1) * 1 ≤ (zs.length + 1) * K := Nat.mul_le_mul_left _ (by omega)
        omega
      have hlo : os.length ≤ M := by omega
      have hz := hb.size
      by_cases hodd : K % 2 = 1
      · have e2 : ((K : Int) % 2 == 1) = true := by simp; omega
        go_wp2_with fail
        refine (rmul_any ao ax co cx os zs wr HRO.out HRX.out HCO.out HCX.out (by omega) (by omega)).mono ?_
        rintro e w1 ⟨a1, c1, o1, rfl, r1, n1, v1, l1, b1⟩
        have z1 := b1.size
        have R1 := Lib.hid r1; have N1 := Lib.hid n1; have V1 := Lib.hid v1; have B1 := Lib.hid b1
        clear r1 n1 v1 b1
        go_wp2_with fail
        refine (rmul_any ax ax cx cx zs zs w1 (HRX.out.keep B1.out) (HRX.out.keep B1.out) HCX.out HCX.out (by omega) (by omega)).mono ?_
        rintro e w2 ⟨a2, c2, o2, rfl, r2, n2, v2, l2, b2⟩
        have R2 := Lib.hid r2; have N2 := Lib.hid n2; have V2 := Lib.hid v2; have B2 := Lib.hid b2
        clear r2 n2 v2 b2
        go_wp2_with fail
        have eK : (K : Int) / 2 = ((K / 2 : Nat) : Int) := by simp
        rw [eK]
        refine ⟨⟨K / 2, c2, c1, o2, o1, a2, a1, rfl, by omega, rfl, rfl, R2.out, R1.out.keep B2.out, N2.out, N1.out, ?_, ?_, hb.trans ((B1.out.trans (B2.out.mono z1)).mono hz)⟩, by simp [intOf]; omega⟩
        · rw [V1.out, V2.out]; exact pow_odd HV.out hodd
        · have := can_mono (n := K / 2) l2
          have := len_odd hm hodd
          omega
      · have e2 : ((K : Int) % 2 == 1) = false := by simp; omega
        go_wp2_with fail
        refine (rmul_any ax ax cx cx zs zs wr HRX.out HRX.out HCX.out HCX.out (by omega) (by omega)).mono ?_
        rintro e w2 ⟨a2, c2, o2, rfl, r2, n2, v2, l2, b2⟩
        have R2 := Lib.hid r2; have N2 := Lib.hid n2; have V2 := Lib.hid v2; have B2 := Lib.hid b2
        clear r2 n2 v2 b2
        go_wp2_with fail
        have eK : (K : Int) / 2 = ((K / 2 : Nat) : Int) := by simp
        rw [eK]
        refine ⟨⟨K / 2, c2, co, o2, os, a2, ao, rfl, by omega, rfl, rfl, R2.out, HRO.out.keep B2.out, N2.out, HCO.out, ?_, ?_, hb.trans (B2.out.mono hz)⟩, by simp [intOf]; omega⟩
        · rw [V2.out]; exact pow_even HV.out (by omega)
        · have := can_mono (n := K / 2) l2
          have := len_even hm (by omega)
          omega
end Go.Proofs.YtbagmfnedgjndaaDoor
