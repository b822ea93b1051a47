/-
  Bars: the search for a stretch, and the stretches between bars with their loads.
-/
import Derived.Test.YtahfliboanphkaaBrs
import Derived.Test.YtahfliboanphkaaSrc
import Derived.Test.YtahfliboanphkaaGld
import Derived.Test.YtahfliboanphkaaRea
import Derived.Outline
namespace Go.Proofs.Ytahfliboanphkaa
open Go.RowKit
attribute [local go_sem ↓] Go.wp_at_zero Go.wp_at_succ
def sIdx (l : List Int) (t : Int) : Int := bs (fun k => decide (t ≤ l.getD k.toNat 0)) 0 l.length
set_option maxRecDepth 100000 in
set_option maxHeartbeats 3200000 in
theorem searchInts_any (b o cap : Nat) (l : List Int) (t : Int) (w : World) (hl : l.length ≤ 1000000) (hb : b < w.heap.size) (hc : ∀ j (h : j < l.length), w.cell? ⟨b, o + j, none⟩ = some (.int .i64 l[j])) :
    Calls Try.prog 82 #[.slice (some ⟨b, o, none⟩) l.length cap, .int .i64 t] w fun e w' => e = .returned (.int .i64 (sIdx l t)) ∧ Below w.heap.size w w' := by
  have HC := Lib.hid hc; clear hc
  go_enter Try.func82, Try.ntmps82
  go_wp2_with fail
  have G := Lib.hid ((Box.new w #[.slice (some ⟨b, o, none⟩) l.length cap] 47 rfl).alloc (.cells #[.int .i64 t] 3))
  have U := Lib.hid (Box.new (w.alloc (.cells #[.slice (some ⟨b, o, none⟩) l.length cap] 47)) #[.int .i64 t] 3 (n := w.heap.size + 1) (by simp))
  have BW : Below w.heap.size w ((w.alloc (.cells #[.slice (some ⟨b, o, none⟩) l.length cap] 47)).alloc (.cells #[.int .i64 t] 3)) := by go_grown
  generalize (w.alloc (.cells #[.slice (some ⟨b, o, none⟩) l.length cap] 47)).alloc (.cells #[.int .i64 t] 3) = u at *
  have zu := BW.size
  refine (search_any 99 _ (fun k => decide (t ≤ l.getD k.toNat 0)) l.length _ (by omega) (by omega) enters99 ?_).mono ?_
  · refine Lib.hid fun x wr x0 x2 hbw => ?_
    obtain ⟨k, rfl⟩ := Int.eq_ofNat_of_zero_le x0
    have hk : k < l.length := by omega
    have c1 := (G.out.keep hbw).cell 0; have c2 := (U.out.keep hbw).cell 0
    have c3 := ((bcell hbw).1 b (o + k) (by omega)).trans (((bcell BW).1 b (o + k) hb).trans (HC.out k hk))
    refine (searchC_any w.heap.size (w.heap.size + 1) b o k l.length cap l[k] t wr c1 hk hl c3 c2).mono fun e w' ⟨he, hd⟩ => ⟨?_, hbw.trans ((hd.below _))⟩
    rw [he]
    simp [List.getD_eq_getElem?_getD, List.getElem?_eq_getElem hk]
  · rintro e w1 ⟨rfl, h1⟩
    have B1 : Below w.heap.size w w1 := below_via BW h1
    clear h1
    have F := Lib.hid (show bs (fun k => decide (t ≤ l.getD k.toNat 0)) 0 l.length = sIdx l t from rfl)
    generalize bs (fun k => decide (t ≤ l.getD k.toNat 0)) 0 l.length = i at *
    go_wp2_with fail
    go_ret
    exact ⟨ret_int F.out, B1⟩
/-- the cells of the stretches: girders of the first k, loads V -/
def stv (l : List Int) (k : Nat) (V : Nat → Value) (j : Nat) : Value :=
  if j % 4 = 3 then V (j / 4) else if j / 4 < k ∧ j % 4 = 0 then .int .i64 (l.getD (j / 4) 0) else if j / 4 < k ∧ j % 4 = 1 then .int .i64 (l.getD (j / 4 + 1) 0) else .int .i64 0
def stl (l : List Int) (k : Nat) (V : Nat → Value) (m : Nat) : List Value := (List.range (m * 4)).map (stv l k V)
theorem stl_get (l : List Int) (k : Nat) (V : Nat → Value) (m j : Nat) (h : j < m * 4) : (stl l k V m)[j]? = some (stv l k V j) := by
  unfold stl; rw [List.getElem?_map, List.getElem?_range h]; rfl
theorem range_set (n i : Nat) (f : Nat → Value) (v : Value) : ((List.range n).map f).set i v = (List.range n).map (fun j => if j = i then v else f j) := by
  apply List.ext_getElem?
  intro j
  rw [List.getElem?_set, List.getElem?_map, List.getElem?_map]
  by_cases hj : j < n
  · rw [List.getElem?_range hj]
    by_cases hij : i = j
    · subst hij; simp [hj]
    · simp [hij, Ne.symm hij]
  · rw [List.getElem?_eq_none (by simp; omega)]
    simp; intro h; omega
theorem stl_girder (l : List Int) (k m : Nat) (V : Nat → Value) (hk : k < m) (x y : Int) (hx : l.getD k 0 = x) (hy : l.getD (k + 1) 0 = y) :
    (((stl l k V m).set (k * 4) (.int .i64 x)).set (k * 4 + 1) (.int .i64 y)).set (k * 4 + 2) (.int .i64 0) = stl l (k + 1) V m := by
  unfold stl
  rw [range_set, range_set, range_set]
  congr 1
  funext j
  unfold stv
  by_cases h2 : j = k * 4 + 2
  · subst h2; simp only [if_true]; rw [if_neg (by omega), if_neg (by omega), if_neg (by omega)]
  · rw [if_neg h2]
    by_cases h1 : j = k * 4 + 1
    · subst h1; simp only [if_true]; rw [if_neg (by omega), if_neg (by omega), if_pos (by omega), show (k * 4 + 1) / 4 = k by omega, hy]
    · rw [if_neg h1]
      by_cases h0 : j = k * 4
      · subst h0; simp only [if_true]; rw [if_neg (by omega), if_pos (by omega), show k * 4 / 4 = k by omega, hx]
      · rw [if_neg h0]
        by_cases ha : j / 4 < k
        · have hb : j / 4 < k + 1 := by omega
          rcases (show j % 4 = 0 ∨ j % 4 = 1 ∨ j % 4 = 2 ∨ j % 4 = 3 by omega) with h | h | h | h <;> simp [h, ha, hb]
        · rcases (show j % 4 = 0 ∨ j % 4 = 1 ∨ j % 4 = 2 ∨ j % 4 = 3 by omega) with h | h | h | h
          · have hb : ¬ j / 4 < k + 1 := by omega
            simp [h, ha, hb]
          · have hb : ¬ j / 4 < k + 1 := by omega
            simp [h, ha, hb]
          · simp [h]
          · simp [h]
theorem stl_loads (l : List Int) (k m i : Nat) (V : Nat → Value) (hi : i < m) (v : Value) : (stl l k V m).set (i * 4 + 3) v = stl l k (fun n => if n = i then v else V n) m := by
  unfold stl
  rw [range_set]
  congr 1
  funext j
  unfold stv
  by_cases h : j = i * 4 + 3
  · subst h
    rw [if_pos rfl, if_pos (by omega)]
    show v = if (i * 4 + 3) / 4 = i then v else V ((i * 4 + 3) / 4)
    rw [if_pos (by omega)]
  · rw [if_neg h]
    by_cases h3 : j % 4 = 3
    · rw [if_pos h3, if_pos h3]
      show V (j / 4) = if j / 4 = i then v else V (j / 4)
      rw [if_neg (by omega)]
    · rw [if_neg h3, if_neg h3]
theorem stl_made (l : List Int) (m : Nat) : (madeCells #[.int .i64 0, .int .i64 0, .int .i64 0, .slice none 0 0] (m * 4)).toList = stl l 0 (fun _ => .slice none 0 0) m := by
  unfold madeCells stl
  simp only [Array.toList_map, Array.toList_range]
  apply List.map_congr_left
  intro j _
  unfold stv
  have : j % 4 = 0 ∨ j % 4 = 1 ∨ j % 4 = 2 ∨ j % 4 = 3 := by omega
  rcases this with h | h | h | h <;> simp [h]
theorem infoL : (Try.prog.info? 103).map (fun i => (i.zero, i.size, i.bytes)) = some (some (.agg #[.int .i64 0, .int .i64 0, .int .i64 0, .slice none 0 0]), 4, 48) := by kernel_rfl
theorem info2 : (Try.prog.info? 64).map (fun i => (i.zero, i.size, i.bytes)) = some (some (.agg #[.int .i64 0, .int .i64 0]), 2, 16) := by kernel_rfl
end Go.Proofs.Ytahfliboanphkaa
