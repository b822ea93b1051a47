/-
  Plain lemmas on the search by halves and on the enclosure: the number that is found is the greatest one at which the test holds.
-/
import Derived.Test.YtihpkiopeagogaaDoorEnc3
namespace Go.Proofs.YtihpkiopeagogaaDoor

theorem half_spec (P : Int → Bool) (low high : Int) (h : low ≤ high) (hm : ∀ a b, low < a → a ≤ b → b ≤ high → P b = true → P a = true) :
    (half P low high = low ∨ P (half P low high) = true) ∧ ∀ n, half P low high < n → n ≤ high → P n = false := by
  rw [half]
  by_cases hlt : low < high
  · rw [if_pos hlt]
    by_cases hp : P (low + (high - low + 1) / 2) = true
    · rw [if_pos hp]
      have ih := half_spec P (low + (high - low + 1) / 2) high (by omega) (fun a b h1 h2 h3 h4 => hm a b (by omega) h2 h3 h4)
      have hb := half_bd P (low + (high - low + 1) / 2) high (by omega)
      refine ⟨.inr ?_, ih.2⟩
      rcases ih.1 with h1 | h1
      · rw [h1]; exact hp
      · exact h1
    · have hpf : P (low + (high - low + 1) / 2) = false := by simpa using hp
      rw [if_neg hp]
      have ih := half_spec P low (low + (high - low + 1) / 2 - 1) (by omega) (fun a b h1 h2 h3 h4 => hm a b h1 h2 (by omega) h4)
      have hb := half_bd P low (low + (high - low + 1) / 2 - 1) (by omega)
      refine ⟨ih.1, fun n h1 h2 => ?_⟩
      by_cases hn : n ≤ low + (high - low + 1) / 2 - 1
      · exact ih.2 n h1 hn
      · cases hpn : P n
        · rfl
        · have := hm (low + (high - low + 1) / 2) n (by omega) (by omega) h2 hpn
          rw [hpf] at this; cases this
  · rw [if_neg hlt]
    exact ⟨.inl rfl, fun n h1 h2 => by omega⟩
termination_by (high - low).toNat
decreasing_by all_goals omega

/-- the greatest number is the only one of its kind -/
theorem half_unique (P : Int → Bool) (low high r : Int) (h0 : low ≤ r) (h1 : r ≤ high) (hm : ∀ a b, low < a → a ≤ b → b ≤ high → P b = true → P a = true)
    (hr : r = low ∨ P r = true) (hn : ∀ n, r < n → n ≤ high → P n = false) : half P low high = r := by
  have hs := half_spec P low high (by omega) hm
  have hb := half_bd P low high (by omega)
  rcases Int.lt_trichotomy (half P low high) r with h | h | h
  · have h2 := hs.2 r h h1
    rcases hr with h3 | h3
    · omega
    · rw [h2] at h3; cases h3
  · exact h
  · have h2 := hn _ h hb.2
    rcases hs.1 with h3 | h3
    · omega
    · rw [h2] at h3; cases h3

theorem cmpI_le {x y : Int} : cmpI x y ≤ 0 ↔ x ≤ y := by unfold cmpI; split <;> (try split) <;> omega
theorem cmpI_lt {x y : Int} : cmpI x y < 0 ↔ x < y := by unfold cmpI; split <;> (try split) <;> omega
theorem leE_iff {u z : Nat} {d n : Int} : leE u z d n = true ↔ u * n.toNat ^ d.toNat ≤ z := by
  unfold leE cmpE; rw [decide_eq_true_iff, cmpI_le]; omega
theorem ltE_iff {u z : Nat} {d n : Int} : cmpE u z d n < 0 ↔ u * n.toNat ^ d.toNat < z := by
  unfold cmpE; rw [cmpI_lt]; omega
theorem leE_mono {u z : Nat} {d a b : Int} (h : a ≤ b) (hb : leE u z d b = true) : leE u z d a = true := by
  rw [leE_iff] at *
  exact Nat.le_trans (Nat.mul_le_mul_left _ (Nat.pow_le_pow_left (by omega) _)) hb
theorem encLo_eq {u z : Nat} {d L : Int} (h0 : 0 ≤ L) (h1 : L ≤ 1000000000000000) (hr : L = 0 ∨ u * L.toNat ^ d.toNat ≤ z) (hn : z < u * (L + 1).toNat ^ d.toNat) : encLo u z d = L := by
  unfold encLo
  refine half_unique _ _ _ _ h0 h1 (fun a b _ hab _ hb => leE_mono hab hb) (hr.imp id leE_iff.2) (fun n hn1 _ => ?_)
  cases hx : leE u z d n
  · rfl
  · rw [leE_iff] at hx
    have : u * (L + 1).toNat ^ d.toNat ≤ u * n.toNat ^ d.toNat := Nat.mul_le_mul_left _ (Nat.pow_le_pow_left (by omega) _)
    omega

/-- the Pythagorean comma, a thousand times -/
theorem comma : encL (-19) 12 0 1 1000 = 1013 ∧ encH (-19) 12 0 1 1000 = 1014 ∧ encE (-19) 12 0 1 1000 = 0 := by
  have hE : nE (-19) 12 0 1 = 0 := by decide
  have hA : nX (-19) 12 0 1 (-19) = -19 := by decide
  have hB : nX (-19) 12 0 1 12 = 12 := by decide
  have hC : nX (-19) 12 0 1 0 = 0 := by decide
  have hD : nX (-19) 12 0 1 1 = 1 := by decide
  have f := enc_fin (t := 1000) (u := under (-19) 12 0) (z := over (-19) 12 0 * (1000 : Int).toNat ^ (1 : Int).toNat) hE hA hB hC hD (by omega) (by omega) rfl rfl
  have hu : under (-19) 12 0 = 524288 := by decide +kernel
  have hz : over (-19) 12 0 * (1000 : Int).toNat ^ (1 : Int).toNat = 531441000 := by decide +kernel
  rw [hu, hz] at f
  have hL : encLo 524288 531441000 1 = 1013 := encLo_eq (by omega) (by omega) (.inr (by decide +kernel)) (by decide +kernel)
  have hH : encHi 524288 531441000 1 = 1014 := encHi_up hL (ltE_iff.2 (by decide +kernel))
  have f1 := f.1 (by rw [hH]; omega)
  rw [hL, hH] at f1
  exact ⟨f1.2.1, f1.2.2, f1.1⟩
end Go.Proofs.YtihpkiopeagogaaDoor
