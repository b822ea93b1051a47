/-
  A region that draws its order, walked in a round as outside of it.
-/
import Derived.Test.YtnfpmaenikhoaaaBsm
import Derived.Test.YtnfpmaenikhoaaaRea
import Derived.Stop.RegionWithIn
namespace Go.Proofs.Ytnfpmaenikhoaaa
open Go.RowKit Go.Shelf
theorem uponIn_rnd {F : Fence} {n : Nat} {P : Program} {o : Oper} {a : Act} {next : Act → World → Prop} {Q : Exit → Act → World → Prop} (l : Nat) (r : Result Next) (h : o.uponIn F n P a next Q r) : o.uponIn (F.inRound l) n P a next Q r := h
theorem wpOpIn_rnd {F : Fence} {n : Nat} {P : Program} {ops : Array Oper} {Q : Exit → Act → World → Prop} {i : Nat} {K : Act → World → Prop} {a : Act} {w : World} (l : Nat) (hro : F.round = none) (hnd : ∀ o, ops[i]? = some o → ∀ c, o.op ≠ .defer c)
    (h : wpOpIn F n P ops Q i K a w) : wpOpIn (F.inRound l) n P ops Q i K a w := by
  unfold wpOpIn at h ⊢
  cases hi : ops[i]? with
  | none => simpa [hi] using h
  | some o =>
    simp only [hi] at h ⊢
    by_cases hw : Region.wanted o (yielded ops a.tmps) = true
    · rw [if_pos hw] at h ⊢
      refine ⟨h.1, uponIn_rnd l _ ?_⟩
      have h2 := h.2
      rw [Oper.semAt_eq _ _ _ (hnd o hi)] at h2 ⊢
      exact h2
    · rw [if_neg hw] at h ⊢
      exact h
theorem wpAnyIn_rnd {F : Fence} {n : Nat} {P : Program} {md : Region.Mode} {ops : Array Oper} {Q : Exit → Act → World → Prop} (l : Nat) (hro : F.round = none) (hnd : ∀ (i : Nat) o, ops[i]? = some o → ∀ c, o.op ≠ .defer c) :
    ∀ (fuel : Nat) (listed : Array Bool) (a : Act) (w : World), wpAnyIn F n P md ops Q fuel listed a w → wpAnyIn (F.inRound l) n P md ops Q fuel listed a w
  | 0, _, _, _, h => h
  | fuel + 1, listed, a, w, h => ⟨h.1, fun i hi => wpOpIn_rnd l hro (hnd i) (wpOpIn_mono (fun a w hh => wpAnyIn_rnd l hro hnd fuel _ a w hh) (h.2 i hi))⟩
end Go.Proofs.Ytnfpmaenikhoaaa
