/-
  The law PlateBalances: its cases put together.
-/
import Derived.Test.YtahfliboanphkaaLbd
import Derived.Test.YtahfliboanphkaaShf
import Derived.Test.YtahfliboanphkaaFm2
import Derived.Test.YtahfliboanphkaaOpl
namespace Go.Proofs.Ytahfliboanphkaa
open Go.RowKit
theorem sA_take (g : Pf → Int) (l m : List Pf) : ∀ k, k ≤ l.length → sA g (l ++ m) k = sA g l k
  | 0, _ => rfl
  | k + 1, hk => by
    rw [sA_go (l := l ++ m) (p := l[k]) (by rw [List.length_append]; omega) (List.getElem_append_left (by omega)), sA_go (l := l) (p := l[k]) (by omega) rfl, sA_take g l m k (by omega)]
theorem sA_snoc (g : Pf → Int) (l : List Pf) (p : Pf) : sA g (l ++ [p]) (l.length + 1) = sA g l l.length + g p := by
  rw [sA_go (l := l ++ [p]) (p := p) (by simp) (by simp), sA_take g l [p] _ (Nat.le_refl _)]
theorem sum_snoc (l : List Pf) (t0 t1 t2 : Int) :
    sA Pf.p (l ++ [⟨t0, t1, t2, -sA Pf.p l l.length, -sA Pf.q l l.length, -sA Pf.r l l.length⟩]) (l.length + 1) = 0 ∧ sA Pf.q (l ++ [⟨t0, t1, t2, -sA Pf.p l l.length, -sA Pf.q l l.length, -sA Pf.r l l.length⟩]) (l.length + 1) = 0 ∧ sA Pf.r (l ++ [⟨t0, t1, t2, -sA Pf.p l l.length, -sA Pf.q l l.length, -sA Pf.r l l.length⟩]) (l.length + 1) = 0 := by
  refine ⟨?_, ?_, ?_⟩ <;> (rw [sA_snoc]; simp; try omega)
theorem mom_snoc (l : List Pf) (t0 t1 t2 : Int) :
    sA (mX 0 0) (l ++ [⟨t0, t1, t2, -sA Pf.p l l.length, -sA Pf.q l l.length, -sA Pf.r l l.length⟩]) (l.length + 1) = sA (mX t1 t2) l l.length ∧ sA (mY 0 0) (l ++ [⟨t0, t1, t2, -sA Pf.p l l.length, -sA Pf.q l l.length, -sA Pf.r l l.length⟩]) (l.length + 1) = sA (mY t0 t2) l l.length ∧ sA (mZ 0 0) (l ++ [⟨t0, t1, t2, -sA Pf.p l l.length, -sA Pf.q l l.length, -sA Pf.r l l.length⟩]) (l.length + 1) = sA (mZ t0 t1) l l.length := by
  rw [sA_snoc, sA_snoc, sA_snoc, shiftX t1 t2, shiftY t0 t2, shiftZ t0 t1]
  unfold mX mY mZ
  simp only [Int.neg_zero, Int.add_zero, Int.mul_neg]
  refine ⟨?_, ?_, ?_⟩ <;> omega
theorem neg_zero3 (a b c : Int) : (-a == 0 && (-b == 0 && -c == 0)) = (a == 0 && (b == 0 && c == 0)) := by
  rw [Bool.eq_iff_iff]; simp
theorem lawBalancesA (l : List Pf) (a : Option Addr) (cap : Nat) (t0 t1 t2 : Int) (w : World) (hp : PlAt w a l) (hl : l.length ≤ 9223372036854775807) (_ : -9223372036854775808 ≤ t0 ∧ t0 ≤ 9223372036854775807) (_ : -9223372036854775808 ≤ t1 ∧ t1 ≤ 9223372036854775807) (_ : -9223372036854775808 ≤ t2 ∧ t2 ≤ 9223372036854775807) :
    Calls Try.prog 3 #[.slice a l.length cap, vec t0 t1 t2] w fun e w' => e = .returned (.bool true) ∧ Below w.heap.size w w' := by
  cases hf : (decide (l.length ≤ 20) || (decide (300 < l.length) && decide (l.length ≤ 305)))
  · exact blc_A l a cap t0 t1 t2 w hl hp hf
  · by_cases h2 : chkP l = 0
    · have ho := okL_of h2
      cases h3 : beyV 1000000 t0 t1 t2
      · have ht := beyV_no h3
        have sb := sum_bd ho (Nat.le_refl l.length)
        have mb := mom_bd ho ht (Nat.le_refl l.length)
        have ss := sum_snoc l t0 t1 t2
        have ms := mom_snoc l t0 t1 t2
        have hle : (l ++ [(⟨t0, t1, t2, -sA Pf.p l l.length, -sA Pf.q l l.length, -sA Pf.r l l.length⟩ : Pf)]).length = l.length + 1 := by simp
        have hle' : l.length + 1 ≤ 9223372036854775807 := by simp at hf; omega
        refine blc_D l a cap t0 t1 t2 _ _ _ _ _ _ (chkP (l ++ [⟨t0, t1, t2, -sA Pf.p l l.length, -sA Pf.q l l.length, -sA Pf.r l l.length⟩])) w hl hp _ hf h2 (by rw [szB_bey, h3]; rfl) (sb.up (by omega)) (mb.up (by omega)) rfl (Lib.hid fun a cap u h => balanceOk_any l a cap t0 t1 t2 u h2 h ht _ _ _ _ _ _ rfl rfl rfl rfl rfl rfl) (Lib.hid fun u h => rsum_any l a cap u ho h) (Lib.hid fun u h => rmoment_any l t0 t1 t2 a cap u ho ht h) (Lib.hid fun a cap u h => ?_) (fun hD => Lib.hid fun a cap u h => ?_) (fun hD => Lib.hid fun a cap u h => ?_)
        · have h := rchkP_any _ a cap u (by rw [hle]; exact hle') h
          rw [hle] at h
          exact h
        · have h := sumOk_any _ a cap u hD h
          rw [hle, ss.1, ss.2.1, ss.2.2] at h
          exact h
        · have h := balOk_any _ a cap u hD h
          rw [hle, ss.1, ss.2.1, ss.2.2, ms.1, ms.2.1, ms.2.2] at h
          rw [neg_zero3]
          exact h
      · exact blc_C l a cap t0 t1 t2 w hl hp hf h2 (by rw [szB_bey, h3]; rfl) (Lib.hid fun a cap u h => balanceBad_any 2 l a cap t0 t1 t2 u (by omega) h (Lib.hid fun u h => forcesAtPlace_any t0 t1 t2 l a cap u h2 h h3))
    · exact blc_B l a cap t0 t1 t2 (chkP l) w hl hp hf h2 rfl (chkP_wrap l) (Lib.hid fun a cap u h => balanceBad_any (chkP l) l a cap t0 t1 t2 u h2 h (Lib.hid fun u h => forcesAtBad_any (chkP l) t0 t1 t2 l a cap u rfl h2 hl h))
end Go.Proofs.Ytahfliboanphkaa
