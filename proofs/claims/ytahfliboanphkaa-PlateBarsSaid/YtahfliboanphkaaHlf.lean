/-
  The search by halves: its plain lemmas, and the walk of greatest.
-/
import Derived.Test.YtahfliboanphkaaBase
namespace Go.Proofs.Ytahfliboanphkaa
open Go.RowKit
/-- the search by halves -/
def half (P : Int → Bool) (low high : Int) : Int :=
  if low < high then
    (if P (low + (high - low + 1) / 2) then half P (low + (high - low + 1) / 2) high else half P low (low + (high - low + 1) / 2 - 1))
  else low
termination_by (high - low).toNat
decreasing_by all_goals omega

def GreatRel (P : Int → Bool) (low high : Int) (w : World) (a b : Value) (wr : World) : Prop :=
  ∃ l h : Int, low ≤ l ∧ h ≤ high ∧ l ≤ h ∧ a = .int .i64 l ∧ b = .int .i64 h ∧ half P l h = half P low high ∧ Below w.heap.size w wr

set_option maxRecDepth 100000 in
set_option maxHeartbeats 400000 in
theorem greatest_any (K : Nat) (cap : Array Value) (P : Int → Bool) (low high : Int) (w : World) (h0 : -1152921504606846976 ≤ low) (h1 : high ≤ 1152921504606846976) (hlh : low ≤ high)
    (hK : ∀ (args : Array Value) (w : World), (callFunc K args).run Try.prog w = .ok (.enter K args) w)
    (H : Hid (∀ (n : Int) (wr : World), low < n → n ≤ high → Below w.heap.size w wr → Calls Try.prog K (#[.int .i64 n] ++ cap) wr fun e w' => e = .returned (.bool (P n)) ∧ Below w.heap.size w w')) :
    Calls Try.prog 106 #[.int .i64 low, .int .i64 high, .func (.func K) #[] cap] w fun e w' => e = .returned (.int .i64 (half P low high)) ∧ Below w.heap.size w w' := by
  go_enter Try.func106, Try.ntmps106
  go_wp2_with fail
  go_loopw [0, 1] (GreatRel P low high w) (fun a b _ => (intOf b - intOf a).toNat)
  case atStart => exact ⟨low, high, by omega, by omega, hlh, rfl, rfl, rfl, Below.refl _ _⟩
  case round =>
    obtain ⟨l, h, hl, hh, hle, rfl, rfl, hf, hb⟩ := hrel
    have HF := Lib.hid hf; clear hf
    by_cases hlt : l < h
    · go_wp2_with fail

      refine (H.out (l + (h - l + 1) / 2) _ (by omega) (by omega) hb).mono ?_
      rintro e w1 ⟨rfl, hb1⟩
      cases hP : P (l + (h - l + 1) / 2)
      · have HP := Lib.hid hP
        go_wp2_with fail
        go_roundw
        case rel =>
          refine ⟨l, l + (h - l + 1) / 2 - 1, hl, by omega, by omega, rfl, rfl, ?_, hb1⟩
          rw [← HF.out]; conv => rhs; rw [half]
          rw [if_pos hlt, HP.out]; rfl
        case measure => simp [intOf]; omega
      · have HP := Lib.hid hP
        go_wp2_with fail
        go_roundw
        case rel =>
          refine ⟨l + (h - l + 1) / 2, h, by omega, hh, by omega, rfl, rfl, ?_, hb1⟩
          rw [← HF.out]; conv => rhs; rw [half]
          rw [if_pos hlt, HP.out]; rfl
        case measure => simp [intOf]; omega
    · go_wp2_with fail
      go_ret
      refine ⟨ret_int ?_, hb⟩
      rw [← HF.out, half, if_neg (by omega)]


theorem run_enter {P : Program} {f : FuncId} {fn : Func} (hf : P.funcs[f]? = some fn) (hname : (fn.name == "runtime.NumGoroutine") = false) (hb : fn.body.isSome = true) (args : Array Value) (w : World) :
    (callFunc f args).run P w = .ok (.enter f args) w := by
  obtain ⟨c, hc⟩ := Option.isSome_iff_exists.1 hb
  have hn : fn.name ≠ "runtime.NumGoroutine" := by simpa using hname
  simp [callFunc, hf, hn, hc, go_sem]
theorem half_bd (P : Int → Bool) (low high : Int) (h : low ≤ high) : low ≤ half P low high ∧ half P low high ≤ high := by
  rw [half]
  split
  · rename_i hlt
    split
    · have := half_bd P (low + (high - low + 1) / 2) high (by omega); omega
    · have := half_bd P low (low + (high - low + 1) / 2 - 1) (by omega); omega
  · omega
termination_by (high - low).toNat
decreasing_by all_goals omega

theorem half_spec (P : Int → Bool) (low high : Int) (h : low ≤ high) (hm : ∀ a b, low < a → a ≤ b → b ≤ high → P b = true → P a = true) :
    (half P low high = low ∨ P (half P low high) = true) ∧ ∀ n, half P low high < n → n ≤ high → P n = false := by
  rw [half]
  by_cases hlt : low < high
  · rw [if_pos hlt]
    by_cases hp : P (low + (high - low + 1) / 2) = true
    · rw [if_pos hp]
      have ih := half_spec P (low + (high - low + 1) / 2) high (by omega) (fun a b h1 h2 h3 h4 => hm a b (by omega) h2 h3 h4)
      have hb := half_bd P (low + (high - low + 1) / 2) high (by omega)
      refine ⟨.inr ?_, ih.2⟩
      rcases ih.1 with h1 | h1
      · rw [h1]; exact hp
      · exact h1
    · have hpf : P (low + (high - low + 1) / 2) = false := by simpa using hp
      rw [if_neg hp]
      have ih := half_spec P low (low + (high - low + 1) / 2 - 1) (by omega) (fun a b h1 h2 h3 h4 => hm a b h1 h2 (by omega) h4)
      have hb := half_bd P low (low + (high - low + 1) / 2 - 1) (by omega)
      refine ⟨ih.1, fun n h1 h2 => ?_⟩
      by_cases hn : n ≤ low + (high - low + 1) / 2 - 1
      · exact ih.2 n h1 hn
      · cases hpn : P n
        · rfl
        · have := hm (low + (high - low + 1) / 2) n (by omega) (by omega) h2 hpn
          rw [hpf] at this; cases this
  · rw [if_neg hlt]
    exact ⟨.inl rfl, fun n h1 h2 => by omega⟩
termination_by (high - low).toNat
decreasing_by all_goals omega

/-- the greatest number is the only one of its kind -/
theorem half_unique (P : Int → Bool) (low high r : Int) (h0 : low ≤ r) (h1 : r ≤ high) (hm : ∀ a b, low < a → a ≤ b → b ≤ high → P b = true → P a = true)
    (hr : r = low ∨ P r = true) (hn : ∀ n, r < n → n ≤ high → P n = false) : half P low high = r := by
  have hs := half_spec P low high (by omega) hm
  have hb := half_bd P low high (by omega)
  rcases Int.lt_trichotomy (half P low high) r with h | h | h
  · have h2 := hs.2 r h h1
    rcases hr with h3 | h3
    · omega
    · rw [h2] at h3; cases h3
  · exact h
  · have h2 := hn _ h hb.2
    rcases hs.1 with h3 | h3
    · omega
    · rw [h2] at h3; cases h3

end Go.Proofs.Ytahfliboanphkaa
