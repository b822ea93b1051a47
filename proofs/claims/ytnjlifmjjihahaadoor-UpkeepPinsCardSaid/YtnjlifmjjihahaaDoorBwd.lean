/-
  Readings from the last one on: slices.Backward, and the humidity of a day. No condition but the length.
-/
import Derived.Test.YtnjlifmjjihahaaDoorCli
import Derived.Test.YtnjlifmjjihahaaDoorRfl
namespace Go.Proofs.YtnjlifmjjihahaaDoor
open Go Go.RowKit Go.Shelf
attribute [local go_sem] Oper.semAt_some
/-- the last m readings, from the last one on, each with its number -/
def dnL (l : List (Int × Int)) (m : Nat) : List (Int × Int × Int) := (List.range m).map fun (j : Nat) => ((l.length : Int) - 1 - (j : Int), l.getD (l.length - 1 - j) (0, 0))
theorem dnL_succ (l : List (Int × Int)) (m : Nat) : dnL l (m + 1) = dnL l m ++ [((l.length : Int) - 1 - m, l.getD (l.length - 1 - m) (0, 0))] := by unfold dnL; rw [List.range_succ, List.map_append]; rfl
set_option maxHeartbeats 400000 in
theorem backward_in (F : Fence) (n : Nat) (h7 : F.fn 111) (hro : F.round = none) (a : Option Addr) (len cap : Nat) (w : World) :
    CallsIn F n Tryd.prog 111 #[.slice a len cap] w fun e w' => e = .returned (.func (.func 123) #[] #[.pointer (some ⟨w.heap.size, 0, none⟩)]) ∧ w' = w.alloc (.cells #[.slice a len cap] 50) := by
  refine callsIn_of_wp Tryd.func111 rfl h7 ?_ hro
  simp only [Tryd.ntmps111, List.size_toArray, List.length_cons, List.length_nil, Nat.reduceAdd, Nat.reduceSub, Array.replicate_succ, Array.replicate_zero, List.push_toArray, List.append_toArray, List.nil_append, List.cons_append]
  gi_wp2
  go_ret
  exact ⟨rfl, rfl⟩
def BwR (l : List (Int × Int)) (J Jx : List (Int × Int × Int) → World → Prop) (e : Ending) (W' : World) : Prop :=
  (∃ v, e = .returned v) ∧ ((∃ ys, ys = dnL l l.length ∧ J ys W') ∨ (∃ pre, (∃ m, m ≤ l.length ∧ pre = dnL l m) ∧ Jx pre W'))
set_option maxRecDepth 100000 in
set_option maxHeartbeats 2000000 in
theorem backward1_in (F : Fence) (n : Nat) (h7 : F.fn 123) (hro : F.round = none) (hn : 1 ≤ n) (lp Bg n₀ cap : Nat) (a : Option Addr) (l : List (Int × Int)) (hlen : l.length ≤ 1000) (J Jx : List (Int × Int × Int) → World → Prop)
    (W : World) (hJ : AbidesFrom W.heap.size J) (hn₀ : n₀ ≤ W.heap.size) (hBg0 : Bg < n₀)
    (hY : ∀ pre y W1, J pre W1 → pre.length < l.length → YieldAt F (n - 1) Tryd.prog lp #[.int .i64 y.1, .agg #[.int .i64 y.2.1, .int .i64 y.2.2]] W1 fun e W' =>
      (e = .returned (.bool true) ∧ J (pre ++ [y]) W' ∧ Below n₀ W1 W') ∨ (e = .returned (.bool false) ∧ Jx (pre ++ [y]) W'))
    (hBg : W.cell? ⟨Bg, 0, none⟩ = some (.slice a l.length cap)) (hc : l = [] ∨ ∃ b o, a = some ⟨b, o, none⟩ ∧ b < n₀ ∧ ∀ j (h : j < l.length), W.cell? ⟨b, o + j * 2, none⟩ = some (.int .i64 (l[j]).1) ∧ W.cell? ⟨b, o + j * 2 + 1, none⟩ = some (.int .i64 (l[j]).2)) (h0 : J [] W) :
    CallsIn F n Tryd.prog 123 #[.func (.yield lp) #[] #[], .pointer (some ⟨Bg, 0, none⟩)] W (BwR l J Jx) := by
  refine callsIn_of_wp Tryd.func123 rfl h7 ?_ hro
  simp only [Tryd.ntmps123, List.size_toArray, List.length_cons, List.length_nil, Nat.reduceAdd, Nat.reduceSub, Array.replicate_succ, Array.replicate_zero, List.push_toArray, List.append_toArray, List.nil_append, List.cons_append]
  have HC := Lib.hid hc; clear hc
  have HBG := Lib.hid hBg
  have W0 : IntKind.i64.wrap ((l.length : Int) - 1) = (l.length : Int) - 1 := IntWalk.i64_in _ (by omega)
  have hBgl : Bg < W.heap.size := by omega
  gi_wp2
  clear hBg W0
  gi_loopw [3] (fun i wr => ∃ m : Nat, m ≤ l.length ∧ i = .int .i64 ((l.length : Int) - 1 - m) ∧ J (dnL l m) wr ∧ Below n₀ W wr)
    (fun i _ => (intOf i + 1).toNat)
  case atStart => exact ⟨0, Nat.zero_le _, by simp, by simpa [dnL] using h0, Below.refl _ _⟩
  case round =>
    obtain ⟨m, hm, rfl, hJs, hB⟩ := hrel
    have zk := hB.size
    by_cases hlt : m < l.length
    · obtain ⟨b, o, rfl, hb, hcc⟩ : ∃ b o, a = some ⟨b, o, none⟩ ∧ b < n₀ ∧ ∀ j (h : j < l.length), W.cell? ⟨b, o + j * 2, none⟩ = some (.int .i64 (l[j]).1) ∧ W.cell? ⟨b, o + j * 2 + 1, none⟩ = some (.int .i64 (l[j]).2) := by
        rcases HC.out with h | h
        · subst h; simp at hlt
        · exact h
      obtain ⟨j, hj⟩ : ∃ j : Nat, j = l.length - 1 - m := ⟨_, rfl⟩
      have hjl : j < l.length := by omega
      obtain ⟨c0, c1⟩ := hcc j hjl
      have c0 := (hB.cell (p := ⟨b, o + j * 2, none⟩) hb).trans c0
      have c1 := (hB.cell (p := ⟨b, o + j * 2 + 1, none⟩) hb).trans c1
      have hbg := (hB.cell (p := ⟨Bg, 0, none⟩) hBg0).trans HBG.out
      have HT := Lib.hid (show ∃ d h, l[j] = (d, h) from ⟨_, _, rfl⟩)
      obtain ⟨d, h, hdh⟩ := HT.out
      rw [hdh] at c0 c1
      have HS := Lib.hid (show dnL l (m + 1) = dnL l m ++ [((j : Int), d, h)] by
        rw [dnL_succ, ← hj]
        have e : l.getD j (0, 0) = (d, h) := by simp [List.getD_eq_getElem?_getD, List.getElem?_eq_getElem hjl, hdh]
        rw [e]
        have e2 : (l.length : Int) - 1 - m = j := by omega
        rw [e2])
      have e2 : (l.length : Int) - 1 - m = j := by omega
      rw [e2]
      have HM := Lib.hid (show (j : Int) - 1 = (l.length : Int) - 1 - (m + 1 : Nat) by omega)
      have hw1 : IntKind.i64.wrap ((j : Int) - 1) = (j : Int) - 1 := IntWalk.i64_in _ (by omega)
      have hj0 : (0 : Int) ≤ (j : Int) := by omega
      have hbl : b < wr.heap.size := by omega
      have hgl : Bg < wr.heap.size := by omega
      obtain ⟨fn, tmps, assign, body, hy, hR⟩ := hY _ ((j : Int), d, h) wr hJs (by simp [dnL]; exact hlt)
      dsimp only at hy
      clear hj hdh HT hcc e2
      gi_wp2
      refine hR.mono ?_
      rintro e W3 (⟨rfl, hJ3, hk3⟩ | ⟨rfl, hJx3⟩)
      · gi_wp2
        go_roundw
        case rel => exact ⟨m + 1, by omega, (by first | rw [← HM.out] | (rw [HM.out])), by rw [HS.out]; exact hJ3, hB.trans hk3⟩
        case measure => (simp [intOf]; try omega)
      · gi_wp2
        refine bodyPost_ret (results_none rfl _ _ _) rfl ?_
        exact ⟨⟨_, rfl⟩, .inr ⟨_, ⟨m + 1, by omega, HS.out.symm⟩, hJx3⟩⟩
    · obtain rfl : m = l.length := by omega
      have hneg : ¬ ((0 : Int) ≤ (l.length : Int) - 1 - (l.length : Int)) := by omega
      gi_wp2
      go_end0
      exact ⟨⟨_, rfl⟩, .inl ⟨_, rfl, hJs⟩⟩
end Go.Proofs.YtnjlifmjjihahaaDoor
