/-
  Bars: numbers alone: bars that are right ascend; the stretch of a load; fractions that are the same.
-/
import Derived.Test.YtahfliboanphkaaSt2
import Derived.Test.YtahfliboanphkaaGsm
import Derived.Test.YtahfliboanphkaaDi3
namespace Go.Proofs.Ytahfliboanphkaa
open Go.RowKit
theorem bs_least (P : Int → Bool) (lo hi : Int) (h : lo ≤ hi) (hm : ∀ a b, lo ≤ a → a ≤ b → b < hi → P a = true → P b = true) :
    (bs P lo hi = hi ∨ P (bs P lo hi) = true) ∧ ∀ n, lo ≤ n → n < bs P lo hi → P n = false := by
  rw [bs]
  by_cases hlt : lo < hi
  · rw [if_pos hlt]
    have hd := bs_bd P lo ((lo + hi) / 2) (by omega)
    have hd2 := bs_bd P ((lo + hi) / 2 + 1) hi (by omega)
    cases hp : P ((lo + hi) / 2)
    · simp only [Bool.false_eq_true, if_false]
      have ih := bs_least P ((lo + hi) / 2 + 1) hi (by omega) (fun a b h1 h2 h3 h4 => hm a b (by omega) h2 h3 h4)
      refine ⟨ih.1, fun n h1 h2 => ?_⟩
      by_cases hn : n ≤ (lo + hi) / 2
      · cases hpn : P n
        · rfl
        · have := hm n _ h1 hn (by omega) hpn
          rw [hp] at this; cases this
      · exact ih.2 n (by omega) h2
    · simp only [if_true]
      have ih := bs_least P lo ((lo + hi) / 2) (by omega) (fun a b h1 h2 h3 h4 => hm a b (by omega) h2 (by omega) h4)
      refine ⟨.inr ?_, ih.2⟩
      rcases ih.1 with h1 | h1
      · rw [h1]; exact hp
      · exact h1
  · rw [if_neg hlt]
    exact ⟨.inl (by omega), fun n h1 h2 => by omega⟩
termination_by (hi - lo).toNat
decreasing_by all_goals omega
def OkB (l : List Int) : Prop := (2 ≤ l.length ∧ l.length ≤ 20) ∧ (∀ k, k < l.length → -20000 ≤ l.getD k 0 ∧ l.getD k 0 ≤ 20000) ∧ ∀ k, k + 1 < l.length → l.getD k 0 < l.getD (k + 1) 0
theorem ascP_zero (lo hi : Int) : ∀ (l : List Int) (p : Option Int), ascP lo hi p l = 0 → (∀ k, k < l.length → lo ≤ l.getD k 0 ∧ l.getD k 0 ≤ hi) ∧ (∀ k, k + 1 < l.length → l.getD k 0 < l.getD (k + 1) 0) ∧ (∀ q, p = some q → 0 < l.length → q < l.getD 0 0)
  | [], p, _ => ⟨fun k h => by simp at h, fun k h => by simp at h, fun q _ h => by simp at h⟩
  | x :: t, p, h => by
    unfold ascP at h
    cases hr : inR x lo hi
    · rw [hr] at h; simp at h
    · rw [hr] at h
      cases hb : before p x
      · rw [hb] at h
        simp at h
        obtain ⟨a, b, c⟩ := ascP_zero lo hi t (some x) h
        have hx : lo ≤ x ∧ x ≤ hi := by unfold inR at hr; simpa using hr
        refine ⟨fun k hk => ?_, fun k hk => ?_, fun q hq _ => ?_⟩
        · cases k with
          | zero => exact hx
          | succ k => exact a k (by simpa using hk)
        · cases k with
          | zero => exact c x rfl (by simpa using hk)
          | succ k => exact b k (by simpa using hk)
        · subst hq
          unfold before at hb
          show q < x
          simpa using hb
      · rw [hb] at h; simp at h
theorem okB_of {l : List Int} (h : brE l = 0) : OkB l := by
  unfold brE at h
  cases hr : inR (l.length : Int) 2 20
  · rw [hr] at h; simp at h
  · rw [hr] at h
    have hl : (2 : Int) ≤ l.length ∧ (l.length : Int) ≤ 20 := by unfold inR at hr; simpa using hr
    obtain ⟨a, b, -⟩ := ascP_zero _ _ l none (by simpa using h)
    exact ⟨by omega, a, b⟩
theorem OkB.mono {l : List Int} (h : OkB l) : ∀ (d i : Nat), i + d < l.length → l.getD i 0 ≤ l.getD (i + d) 0
  | 0, i, _ => Int.le_refl _
  | d + 1, i, hi => by
    have h1 := OkB.mono h d i (by omega)
    have h2 := h.2.2 (i + d) (by omega)
    have e : i + (d + 1) = i + d + 1 := by omega
    rw [e]; omega
theorem OkB.le {l : List Int} (h : OkB l) {i j : Nat} (hij : i ≤ j) (hj : j < l.length) : l.getD i 0 ≤ l.getD j 0 := by
  have := h.mono (j - i) i (by omega)
  rwa [show i + (j - i) = j by omega] at this
theorem tail_getD (l : List Int) (k : Nat) : l.tail.getD k 0 = l.getD (k + 1) 0 := by
  cases l with
  | nil => rfl
  | cons x t => rfl
/-- the stretch of a load: it lies between its two bars -/
theorem sIdx_spec {l : List Int} {m : Nat} (hm : l.length = m + 1) (h : OkB l) {t : Int} (t0 : l.getD 0 0 ≤ t) (t1 : t ≤ l.getD m 0) :
    ∃ s : Nat, sIdx l.tail t = (s : Int) ∧ s < m ∧ l.getD s 0 ≤ t ∧ t ≤ l.getD (s + 1) 0 ∧ (0 < s → l.getD s 0 < t) := by
  have hl : l.tail.length = m := by rw [List.length_tail]; omega
  have hmm : 1 ≤ m := by have := h.1; omega
  have MO : ∀ a b : Int, 0 ≤ a → a ≤ b → b < (l.tail.length : Int) → (fun k : Int => decide (t ≤ l.tail.getD k.toNat 0)) a = true → (fun k : Int => decide (t ≤ l.tail.getD k.toNat 0)) b = true := by
    intro a b a0 ab bm ha
    simp only [decide_eq_true_eq, tail_getD] at ha ⊢
    have := h.le (i := a.toNat + 1) (j := b.toNat + 1) (by omega) (by omega)
    omega
  have hb := bs_bd (fun k : Int => decide (t ≤ l.tail.getD k.toNat 0)) 0 l.tail.length (by omega)
  have hs := bs_least (fun k : Int => decide (t ≤ l.tail.getD k.toNat 0)) 0 l.tail.length (by omega) MO
  have F : sIdx l.tail t = bs (fun k : Int => decide (t ≤ l.tail.getD k.toNat 0)) 0 l.tail.length := rfl
  generalize bs (fun k : Int => decide (t ≤ l.tail.getD k.toNat 0)) 0 l.tail.length = v at *
  obtain ⟨s, rfl⟩ := Int.eq_ofNat_of_zero_le hb.1
  have hlast : ∀ n : Nat, n < s → ¬ t ≤ l.getD (n + 1) 0 := fun n hn => by
    have := hs.2 (n : Int) (by omega) (by omega)
    simpa [tail_getD] using this
  have hsm : s < m := by
    rcases Nat.lt_or_ge s m with h' | h'
    · exact h'
    · exfalso
      have := hlast (m - 1) (by omega)
      rw [show m - 1 + 1 = m by omega] at this
      omega
  have hup : t ≤ l.getD (s + 1) 0 := by
    rcases hs.1 with h' | h'
    · omega
    · simpa [tail_getD] using h'
  refine ⟨s, F, hsm, ?_, hup, fun hpos => ?_⟩
  · rcases Nat.eq_zero_or_pos s with rfl | hpos
    · exact t0
    · have := hlast (s - 1) (by omega)
      rw [show s - 1 + 1 = s by omega] at this
      omega
  · have := hlast (s - 1) (by omega)
    rw [show s - 1 + 1 = s by omega] at this
    omega
theorem part_ok {l : List Int} {m : Nat} (hm : l.length = m + 1) (h : OkB l) {L : List (Int × Int)} (hL : okY (l.getD 0 0) (l.getD m 0) L) (i : Nat) (hi : i < m) : okY (l.getD i 0) (l.getD (i + 1) 0) (part l L i) := by
  refine ⟨Nat.le_trans (part_le l L i) hL.1, fun y hy => ?_⟩
  unfold part at hy
  obtain ⟨hyL, hyi⟩ := List.mem_filter.1 hy
  have hb := hL.2 y hyL
  obtain ⟨s, e, s0, s1, s2, -⟩ := sIdx_spec hm h hb.1.1 hb.1.2
  have : s = i := by
    have : sIdx l.tail y.1 = (i : Int) := by simpa using hyi
    omega
  subst this
  exact ⟨⟨s1, s2⟩, hb.2⟩
theorem okB_wid {l : List Int} {m : Nat} (hm : l.length = m + 1) (h : OkB l) (i : Nat) (hi : i < m) : Wid (l.getD i 0) (l.getD (i + 1) 0) :=
  ⟨h.2.1 i (by omega), h.2.1 (i + 1) (by omega), h.2.2 i (by omega)⟩
/-- fractions that are the same have the same lowest terms -/
theorem red_same {n d n' d' : Int} (hd : 1 ≤ d) (hd' : 1 ≤ d') (h : n * d' = n' * d) : redN n d = redN n' d' ∧ redD n d = redD n' d' := by
  have h1 := red_mul (g := d') (n := n) (d := d) (by omega)
  have h2 := red_mul (g := d) (n := n') (d := d') (by omega)
  rw [Int.mul_comm d' n, h, Int.mul_comm d' d] at h1
  rw [Int.mul_comm d n'] at h2
  exact ⟨h1.1.symm.trans h2.1, h1.2.symm.trans h2.2⟩
def RAi (l : List Int) (L : List (Int × Int)) (i : Nat) : Int := sL (fA (l.getD (i + 1) 0)) (part l L i) (part l L i).length
def RBi (l : List Int) (L : List (Int × Int)) (i : Nat) : Int := sL (fB (l.getD i 0)) (part l L i) (part l L i).length
def Wi (l : List Int) (i : Nat) : Int := l.getD (i + 1) 0 - l.getD i 0
def beN (l : List Int) (L : List (Int × Int)) : Nat → Int
  | 0 => 0
  | i + 1 => redN (RBi l L i) (Wi l i)
def beD (l : List Int) (L : List (Int × Int)) : Nat → Int
  | 0 => 1
  | i + 1 => redD (RBi l L i) (Wi l i)
def baN (l : List Int) (L : List (Int × Int)) (m i : Nat) : Int := if i < m then redN (beN l L i * redD (RAi l L i) (Wi l i) + redN (RAi l L i) (Wi l i) * beD l L i) (beD l L i * redD (RAi l L i) (Wi l i)) else beN l L i
def baD (l : List Int) (L : List (Int × Int)) (m i : Nat) : Int := if i < m then redD (beN l L i * redD (RAi l L i) (Wi l i) + redN (RAi l L i) (Wi l i) * beD l L i) (beD l L i * redD (RAi l L i) (Wi l i)) else beD l L i
theorem red_bd {n d M : Int} (hd : 1 ≤ d) (n0 : -M ≤ n) (n1 : n ≤ M) : (-M ≤ redN n d ∧ redN n d ≤ M) ∧ 1 ≤ redD n d ∧ redD n d ≤ d := by
  obtain ⟨hg, e1, e2, hp⟩ := red_back (n := n) hd
  refine ⟨tdiv_bd n0 n1, hp, ?_⟩
  have := Int.mul_le_mul_of_nonneg_right (show 1 ≤ gcdI n d by omega) (show 0 ≤ redD n d by omega)
  rw [Int.one_mul, ← e2] at this
  exact this
theorem RA_bd {l : List Int} {m : Nat} (hm : l.length = m + 1) (h : OkB l) {L : List (Int × Int)} (hL : okY (l.getD 0 0) (l.getD m 0) L) (i : Nat) (hi : i < m) :
    (-4000000000000 ≤ RAi l L i ∧ RAi l L i ≤ 4000000000000) ∧ (-4000000000000 ≤ RBi l L i ∧ RBi l L i ≤ 4000000000000) ∧ 1 ≤ Wi l i ∧ Wi l i ≤ 40000 := by
  have hw := okB_wid hm h i hi
  have ho := part_ok hm h hL i hi
  refine ⟨sA_in hw ho (Nat.le_refl _), sB_in hw ho (Nat.le_refl _), ?_⟩
  obtain ⟨a, b, c⟩ := hw
  unfold Wi; omega
theorem be_bd {l : List Int} {m : Nat} (hm : l.length = m + 1) (h : OkB l) {L : List (Int × Int)} (hL : okY (l.getD 0 0) (l.getD m 0) L) : ∀ i, i ≤ m → (-4000000000000 ≤ beN l L i ∧ beN l L i ≤ 4000000000000) ∧ 1 ≤ beD l L i ∧ beD l L i ≤ 40000
  | 0, _ => ⟨⟨by show (-4000000000000 : Int) ≤ 0; omega, by show (0 : Int) ≤ 4000000000000; omega⟩, by show (1 : Int) ≤ 1; omega, by show (1 : Int) ≤ 40000; omega⟩
  | i + 1, hi => by
    obtain ⟨-, b, c, d⟩ := RA_bd hm h hL i (by omega)
    obtain ⟨x, y, z⟩ := red_bd c b.1 b.2
    exact ⟨x, y, by show redD (RBi l L i) (Wi l i) ≤ 40000; omega⟩
end Go.Proofs.Ytahfliboanphkaa
