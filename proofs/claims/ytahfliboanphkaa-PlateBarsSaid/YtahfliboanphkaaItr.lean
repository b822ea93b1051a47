/-
  The loads of a girder, one after the other: what the iterator upTo yields, for every loop's body.
-/
import Derived.RangeFuncNested
import Derived.RangeFuncBound
import Derived.RangeFuncCalls
import Derived.RangeFuncLeaves
import Derived.Shelf.Abstract
import Derived.Shelf.RegionOpen
import Derived.WalkKit
import Derived.OwnWalkIn
import Derived.TacticsInMore
import Derived.LoopNIn
import Derived.LoopIn
import Derived.Test.YtahfliboanphkaaBase
namespace Go.Proofs.Ytahfliboanphkaa
open Go.RowKit Go.Shelf
attribute [local go_sem] Oper.semAt_some
/-- loads in a row: each place and its newtons -/
def LoadsAt (w : World) (b o : Nat) (L : List (Int × Int)) : Prop := ∀ j (h : j < L.length), w.cell? ⟨b, o + j * 2, none⟩ = some (.int .i64 (L[j]).1) ∧ w.cell? ⟨b, o + j * 2 + 1, none⟩ = some (.int .i64 (L[j]).2)
theorem LoadsAt.below {w w' : World} {B b o : Nat} {L : List (Int × Int)} (h : LoadsAt w b o L) (hb : Below B w w') (hB : b < B) : LoadsAt w' b o L := fun j hj =>
  ⟨(hb.cell (p := ⟨b, o + j * 2, none⟩) hB).trans (h j hj).1, (hb.cell (p := ⟨b, o + j * 2 + 1, none⟩) hB).trans (h j hj).2⟩
/-- what has come when k loads have been looked at -/
def come (x : Int) (L : List (Int × Int)) : List (Int × Int) := L.filter fun y => decide (y.1 ≤ x)
theorem come_yes {x : Int} {L : List (Int × Int)} {k : Nat} (hk : k < L.length) (h : (L[k]).1 ≤ x) : come x (L.take (k + 1)) = come x (L.take k) ++ [L[k]] := by
  unfold come; rw [List.take_succ_eq_append_getElem hk, List.filter_append]; simp [h]
theorem come_no {x : Int} {L : List (Int × Int)} {k : Nat} (hk : k < L.length) (h : ¬ (L[k]).1 ≤ x) : come x (L.take (k + 1)) = come x (L.take k) := by
  unfold come; rw [List.take_succ_eq_append_getElem hk, List.filter_append]; simp [h]
theorem come_length {x : Int} {L : List (Int × Int)} {k : Nat} (hk : k ≤ L.length) : (come x (L.take k)).length ≤ k := by
  unfold come; refine Nat.le_trans (List.length_filter_le _ _) ?_; rw [List.length_take]; omega
def Kpt (n₀ Bx : Nat) (W W' : World) : Prop := Below n₀ W W' ∧ (Bx < W.heap.size → W'.cell? ⟨Bx, 0, none⟩ = W.cell? ⟨Bx, 0, none⟩)
theorem Kpt.trans {n₀ Bx : Nat} {A B C : World} (h : Kpt n₀ Bx A B) (k : Kpt n₀ Bx B C) : Kpt n₀ Bx A C :=
  ⟨h.1.trans k.1, fun hb => (k.2 (Nat.lt_of_lt_of_le hb h.1.size)).trans (h.2 hb)⟩
theorem Kpt.putObj {n₀ Bx : Nat} {w : World} (hn : n₀ ≤ w.heap.size) (hx : Bx < w.heap.size) (W : World) (l : Nat) (o o' : Obj) (hl : w.heap.size ≤ l) (h : W.heap[l]? = some o) (h1 : o.isCells = false) (h2 : o.isWalk = false) : Kpt n₀ Bx W (W.putObj l o') :=
  ⟨belowK_b hn W l o o' hl h h1 h2, fun _ => World.cell?_of_block ((grownBy_putObj' W l o').block Bx (by assumption) (by intro e; cases e; omega))⟩
set_option maxRecDepth 100000 in
set_option maxHeartbeats 2000000 in
theorem upTo1_in (F : Fence) (n : Nat) (h7 : F.fn 100) (hro : F.round = none) (hn : 1 ≤ n) (l Bg Bx n₀ b off cap : Nat) (x : Int) (L : List (Int × Int)) (hreach : L.length * 16 ≤ 140737488351232) (hb : b < n₀) (J Jx : List (Int × Int) → World → Prop)
    (W : World) (hJ : AbidesFrom W.heap.size J) (hn₀ : n₀ ≤ W.heap.size) (hBxl : Bx < W.heap.size)
    (hY : ∀ pre y W1, J pre W1 → pre.length < L.length → YieldAt F (n - 1) Try.prog l #[.int .i64 y.1, .int .i64 y.2] W1 fun e W' =>
      (e = .returned (.bool true) ∧ J (pre ++ [y]) W' ∧ Kpt n₀ Bx W1 W') ∨ (e = .returned (.bool false) ∧ Jx (pre ++ [y]) W'))
    (hBg : W.cell? ⟨Bg, 3, none⟩ = some (.slice (some ⟨b, off, none⟩) L.length cap)) (hBx : W.cell? ⟨Bx, 0, none⟩ = some (.int .i64 x)) (hc : LoadsAt W b off L) (h0 : J [] W) :
    CallsIn F n Try.prog 100 #[.func (.yield l) #[] #[], .pointer (some ⟨Bg, 0, none⟩), .pointer (some ⟨Bx, 0, none⟩)] W fun e W' => (∃ v, e = .returned v) ∧
      ((∃ ys, ys = come x L ∧ J ys W') ∨ (∃ pre, (∃ k, k ≤ L.length ∧ pre = come x (L.take k)) ∧ Jx pre W')) := by
  refine callsIn_of_wp Try.func100 rfl h7 ?_ hro
  simp only [Try.ntmps100, List.size_toArray, List.length_cons, List.length_nil, Nat.reduceAdd, Nat.reduceSub, Array.replicate_succ, Array.replicate_zero, List.push_toArray, List.append_toArray, List.nil_append, List.cons_append]
  have HC := Lib.hid hc; clear hc
  gi_wp2
  gi_loopw [9] (fun i wr => ∃ k : Nat, k ≤ L.length ∧ i = .int .i64 k ∧ J (come x (L.take k)) wr ∧ Kpt n₀ Bx W wr)
    (fun i _ => L.length - (intOf i).toNat)
  case atStart => exact ⟨0, Nat.zero_le _, rfl, by simpa [come] using h0, Below.refl _ _, fun _ => rfl⟩
  case round =>
    obtain ⟨k, hk, rfl, hJs, hnx⟩ := hrel
    have zk := hnx.1.size
    by_cases hlt : k < L.length
    · obtain ⟨c0, c1⟩ := HC.out.below hnx.1 hb k hlt
      have hbx := (hnx.2 hBxl).trans hBx
      have hbxl : Bx < wr.heap.size := by omega
      have hbl : b < wr.heap.size := by omega
      have HE := Lib.hid (show ∃ y, L[k] = y from ⟨_, rfl⟩)
      obtain ⟨⟨y1, y2⟩, hy0⟩ := HE.out
      rw [hy0] at c0 c1
      have HY0 := Lib.hid hy0; clear hy0 HE
      have hJa : J (come x (L.take k)) (wr.alloc (.cells #[.int .i64 y1, .int .i64 y2] 64)) := hJ _ _ _ none hJs (World.grownBy_alloc wr _ none) (fun r e => by cases e)
      have hKa : Kpt n₀ Bx W (wr.alloc (.cells #[.int .i64 y1, .int .i64 y2] 64)) := hnx.trans ⟨(Below.refl _ _).alloc (by omega) _, fun h => World.cell?_alloc_past _ _ _ h⟩
      by_cases hyx : y1 ≤ x
      · obtain ⟨fn, tmps, assign, body, hy, hR⟩ := hY _ (y1, y2) _ hJa (by have := come_length (x := x) (L := L) (Nat.le_of_lt hlt); omega)
        dsimp only at hy
        gi_wp2
        refine hR.mono ?_
        rintro e W3 (⟨rfl, hJ3, hk3⟩ | ⟨rfl, hJx3⟩)
        · gi_wp2
          go_roundw
          case rel => exact ⟨k + 1, by omega, by simp, by rw [come_yes hlt (by rw [HY0.out]; exact hyx), HY0.out]; exact hJ3, hKa.trans hk3⟩
          case measure => simp [intOf]; omega
        · gi_wp2
          refine bodyPost_ret (results_none rfl _ _ _) rfl ?_
          exact ⟨⟨_, rfl⟩, .inr ⟨_, ⟨k + 1, by omega, by rw [come_yes hlt (by rw [HY0.out]; exact hyx), HY0.out]⟩, hJx3⟩⟩
      · gi_wp2
        refine ⟨fun _ h => (by cases h), ?_⟩
        gi_wp2
        go_roundw
        case rel => exact ⟨k + 1, by omega, by simp, by rw [come_no hlt (by rw [HY0.out]; show ¬ y1 ≤ x; omega)]; exact hJa, hKa⟩
        case measure => simp [intOf]; omega
    · obtain rfl : k = L.length := by omega
      gi_wp2
      go_end0
      exact ⟨⟨_, rfl⟩, .inl ⟨_, by rw [List.take_length], hJs⟩⟩
/-- the slice value holds these loads -/
def LoadsIn (n₀ : Nat) (W : World) (sv : Value) (L : List (Int × Int)) : Prop :=
  (sv = .slice none 0 0 ∧ L = []) ∨ ∃ b off cap, sv = .slice (some ⟨b, off, none⟩) L.length cap ∧ b < n₀ ∧ LoadsAt W b off L
theorem LoadsIn.below {n₀ : Nat} {A B : World} (h : Below n₀ A B) {sv : Value} {L : List (Int × Int)} : LoadsIn n₀ A sv L → LoadsIn n₀ B sv L
  | .inl e => .inl e
  | .inr ⟨b, off, cap, e, hb, hc⟩ => .inr ⟨b, off, cap, e, hb, hc.below h hb⟩
set_option maxRecDepth 100000 in
set_option maxHeartbeats 1000000 in
theorem upTo1_nil_in (F : Fence) (n : Nat) (h7 : F.fn 100) (hro : F.round = none) (l Bg Bx : Nat) (J : List (Int × Int) → World → Prop) (W : World)
    (hBg : W.cell? ⟨Bg, 3, none⟩ = some (.slice none 0 0)) (h0 : J [] W) :
    CallsIn F n Try.prog 100 #[.func (.yield l) #[] #[], .pointer (some ⟨Bg, 0, none⟩), .pointer (some ⟨Bx, 0, none⟩)] W fun e W' => (∃ v, e = .returned v) ∧ J [] W' := by
  refine callsIn_of_wp Try.func100 rfl h7 ?_ hro
  simp only [Try.ntmps100, List.size_toArray, List.length_cons, List.length_nil, Nat.reduceAdd, Nat.reduceSub, Array.replicate_succ, Array.replicate_zero, List.push_toArray, List.append_toArray, List.nil_append, List.cons_append]
  gi_wp2
  gi_loopw [9] (fun i wr => i = .int .i64 0 ∧ J [] wr) (fun _ _ => 0)
  case atStart => exact ⟨rfl, h0⟩
  case round =>
    obtain ⟨rfl, hJs⟩ := hrel
    gi_wp2
    go_end0
    exact ⟨⟨_, rfl⟩, hJs⟩
/-- upTo hands back a value that yields the loads up to x, in their order -/
theorem upTo_stops (F : Fence) (n : Nat) (h7 : F.fn 100) (hro : F.round = none) (hn : 1 ≤ n) (Bg Bx n₀ : Nat) (sv : Value) (x : Int) (L : List (Int × Int)) (hreach : L.length * 16 ≤ 140737488351232) (w : World) (hBgl : Bg < w.heap.size) (hBxl : Bx < w.heap.size) (hn₀ : n₀ ≤ w.heap.size)
    (hBg : w.cell? ⟨Bg, 3, none⟩ = some sv) (hBx : w.cell? ⟨Bx, 0, none⟩ = some (.int .i64 x)) (hI : LoadsIn n₀ w sv L) :
    SeqStopsK F n Try.prog 100 #[.pointer (some ⟨Bg, 0, none⟩), .pointer (some ⟨Bx, 0, none⟩)] (fun y : Int × Int => #[Value.int .i64 y.1, Value.int .i64 y.2]) (Kpt n₀ Bx) (fun ys => ys = come x L) (fun pre => ∃ k, k ≤ L.length ∧ pre = come x (L.take k)) L.length w := fun l J Jx W hW hJ hJx hY h0 => by
  have c1 := (hW.cell (p := ⟨Bg, 3, none⟩) hBgl).trans hBg
  have c2 := (hW.cell (p := ⟨Bx, 0, none⟩) hBxl).trans hBx
  rcases hI.below (hW.mono hn₀) with ⟨rfl, rfl⟩ | ⟨b, off, cap, rfl, hb, hcs⟩
  · exact (upTo1_nil_in F n h7 hro l Bg Bx J W c1 h0).mono fun e W' ⟨he, hj⟩ => ⟨he, .inl ⟨_, rfl, hj⟩⟩
  · refine (upTo1_in F n h7 hro hn l Bg Bx n₀ b off cap x L hreach hb J Jx W hJ (Nat.le_trans hn₀ hW.size) (Nat.lt_of_lt_of_le hBxl hW.size) hY c1 c2 hcs h0).mono ?_
    rintro e W' ⟨he, ⟨ys, rfl, hj⟩ | ⟨pre, hk, hj⟩⟩
    · exact ⟨he, .inl ⟨_, rfl, hj⟩⟩
    · exact ⟨he, .inr ⟨_, hk, hj⟩⟩
abbrev lad (g0 g1 g2 : Int) (sv : Value) : Value := .agg #[.int .i64 g0, .int .i64 g1, .int .i64 g2, sv]
set_option maxHeartbeats 1000000 in
theorem upTo_in (F : Fence) (n : Nat) (h7 : F.fn 83) (hro : F.round = none) (g0 g1 g2 x : Int) (a : Option Addr) (len cap : Nat) (w : World) :
    CallsIn F n Try.prog 83 #[lad g0 g1 g2 (.slice a len cap), .int .i64 x] w fun e w' => e = .returned (.func (.func 100) #[] #[.pointer (some ⟨w.heap.size, 0, none⟩), .pointer (some ⟨w.heap.size + 1, 0, none⟩)]) ∧ w' = (w.alloc (.cells #[.int .i64 g0, .int .i64 g1, .int .i64 g2, .slice a len cap] 103)).alloc (.cells #[.int .i64 x] 3) := by
  refine callsIn_of_wp Try.func83 rfl h7 ?_ hro
  simp only [Try.ntmps83, List.size_toArray, List.length_cons, List.length_nil, Nat.reduceAdd, Nat.reduceSub, Array.replicate_succ, Array.replicate_zero, List.push_toArray, List.append_toArray, List.nil_append, List.cons_append]
  gi_wp2
  go_ret
  exact ⟨rfl, rfl⟩
end Go.Proofs.Ytahfliboanphkaa
