/-
  The humidity of a day: upkeep.humidityOn. No condition but the length.
-/
import Derived.Test.YtnjlifmjjihahaaDoorBwd
namespace Go.Proofs.YtnjlifmjjihahaaDoor
open Go Go.RowKit Go.Shelf
attribute [local go_sem] Oper.semAt_some
/-- the humidity of a day -/
def huV (l : List (Int × Int)) (day : Int) : Int := match (dnL l l.length).find? (fun x => decide (x.2.1 ≤ day)) with
  | some x => x.2.2
  | none => (l.getD 0 (0, 0)).2
theorem dnL_prefix (l : List (Int × Int)) {m : Nat} (hm : m ≤ l.length) : ∃ r, dnL l l.length = dnL l m ++ r := by
  refine ⟨(dnL l l.length).drop m, ?_⟩
  have h : dnL l m = (dnL l l.length).take m := by
    unfold dnL; rw [← List.map_take, List.take_range, Nat.min_eq_left hm]
  rw [h, List.take_append_drop]
theorem huV_found {l : List (Int × Int)} {day : Int} {m : Nat} {pre' : List (Int × Int × Int)} {x : Int × Int × Int} (hm : m ≤ l.length) (h : dnL l m = pre' ++ [x]) (h1 : ∀ y ∈ pre', ¬ y.2.1 ≤ day) (h2 : x.2.1 ≤ day) : huV l day = x.2.2 := by
  obtain ⟨r, hr⟩ := dnL_prefix l hm
  unfold huV
  rw [hr, h, List.append_assoc, List.find?_append]
  have : pre'.find? (fun x => decide (x.2.1 ≤ day)) = none := by
    rw [List.find?_eq_none]; intro y hy; simpa using h1 y hy
  rw [this]
  simp [h2]
theorem huV_none {l : List (Int × Int)} {day : Int} (h : ∀ y ∈ dnL l l.length, ¬ y.2.1 ≤ day) : huV l day = (l.getD 0 (0, 0)).2 := by
  unfold huV
  have : (dnL l l.length).find? (fun x => decide (x.2.1 ≤ day)) = none := by
    rw [List.find?_eq_none]; intro y hy; simpa using h y hy
  rw [this]
theorem Box.grownN {w w' : World} {b : Nat} {cs : Array Value} {t : TypeId} {row : Option Nat} (h : Box w b cs t) (hg : w.grownBy w' row) (hr : ∀ r, row = some r → ∃ o : Obj, w.heap[r]? = some o ∧ o.isCells = false) : Box w' b cs t :=
  (hg.block b (by
    rcases Nat.lt_or_ge b w.heap.size with h' | h'
    · exact h'
    · unfold Box at h; rw [Array.getElem?_eq_none h'] at h; cases h) (fun e => by
    obtain ⟨o, ho, hc⟩ := hr b e.symm
    unfold Box at h; rw [h] at ho; cases ho; cases hc)).trans h
def HuI (w : World) (day : Int) (pre : List (Int × Int × Int)) (W : World) : Prop :=
  (Box W w.heap.size #[.int .i64 day] 3 ∧ Box W (w.heap.size + 1) #[.int .i64 0] 3 ∧ ∀ x ∈ pre, ¬ x.2.1 ≤ day) ∧ Below w.heap.size w W ∧ w.heap.size + 1 + 1 + 1 ≤ W.heap.size
def HuX (w : World) (day : Int) (c : Code) (pre : List (Int × Int × Int)) (W : World) : Prop :=
  (c = .ret ∧ ∃ pre' x, pre = pre' ++ [x] ∧ (∀ y ∈ pre', ¬ y.2.1 ≤ day) ∧ x.2.1 ≤ day ∧ Box W (w.heap.size + 1) #[.int .i64 x.2.2] 3) ∧ Below w.heap.size w W
set_option maxRecDepth 100000 in
set_option maxHeartbeats 3200000 in
theorem hum_in (l : List (Int × Int)) (a : Option Addr) (cap : Nat) (day : Int) (w : World) (hlen : l.length ≤ 1000) (hl0 : 0 < l.length) (hs : ClAt w a l) :
    CallsIn Fence.wide 6 Tryd.prog 84 #[.slice a l.length cap, .int .i64 day] w fun e w' => e = .returned (.int .i64 (huV l day)) ∧ Below w.heap.size w w' := by
  obtain ⟨b, o, rfl, hb, hcc⟩ : ∃ b o, a = some ⟨b, o, none⟩ ∧ b < w.heap.size ∧ ∀ j (h : j < l.length), w.cell? ⟨b, o + j * 2, none⟩ = some (.int .i64 (l[j]).1) ∧ w.cell? ⟨b, o + j * 2 + 1, none⟩ = some (.int .i64 (l[j]).2) := by
    rcases hs with h | h
    · subst h; simp at hl0
    · exact h
  have HC := Lib.hid hcc; clear hcc hs
  refine callsIn_of_wp_marks Tryd.func84 rfl trivial ?_ rfl
  simp only [Tryd.ntmps84, List.size_toArray, List.length_cons, List.length_nil, Nat.reduceAdd, Nat.reduceSub, Array.replicate_succ, Array.replicate_zero, List.push_toArray, List.append_toArray, List.nil_append, List.cons_append]
  gi_wp2_with ((try refine ⟨trivial, ?_⟩); gi_at_call 111; refine (backward_in Fence.wide _ trivial rfl _ _ _ _).mono ?_; rintro e w' ⟨rfl, rfl⟩)
  have D0 := Lib.hid (((Box.new w #[.int .i64 day] 3 (n := w.heap.size) rfl).alloc (.cells #[.int .i64 0] 3)).alloc (.cells #[.slice (some ⟨b, o, none⟩) l.length cap] 50))
  have R0 := Lib.hid ((Box.new (w.alloc (.cells #[.int .i64 day] 3)) #[.int .i64 0] 3 (n := w.heap.size + 1) (by simp)).alloc (.cells #[.slice (some ⟨b, o, none⟩) l.length cap] 50))
  have L0 := Lib.hid (Box.new ((w.alloc (.cells #[.int .i64 day] 3)).alloc (.cells #[.int .i64 0] 3)) #[.slice (some ⟨b, o, none⟩) l.length cap] 50 (n := w.heap.size + 1 + 1) (by simp))
  have B0 : Below w.heap.size w (((w.alloc (.cells #[.int .i64 day] 3)).alloc (.cells #[.int .i64 0] 3)).alloc (.cells #[.slice (some ⟨b, o, none⟩) l.length cap] 50)) := by (repeat' (first | (with_reducible exact Below.refl _ _) | (with_reducible assumption) | (with_reducible refine Below.drew ?_) | (with_reducible refine below_drewN ?_ _) | (with_reducible refine Below.setCell ?_ ?_ _) | (with_reducible refine Below.alloc ?_ ?_ _) | go_size | omega))
  have zu : (((w.alloc (.cells #[.int .i64 day] 3)).alloc (.cells #[.int .i64 0] 3)).alloc (.cells #[.slice (some ⟨b, o, none⟩) l.length cap] 50)).heap.size = w.heap.size + 1 + 1 + 1 := by simp
  generalize (((w.alloc (.cells #[.int .i64 day] 3)).alloc (.cells #[.int .i64 0] 3)).alloc (.cells #[.slice (some ⟨b, o, none⟩) l.length cap] 50)) = u at *
  go_outline
  refine wpIn_rangeFunc_ownH rfl (by omega) (gf := 123) (lb := #[.pointer (some ⟨w.heap.size + 1 + 1, 0, none⟩)]) rfl trivial (enters_of Tryd.func123 (by kernel_rfl) rfl)
    (encs := fun y : Int × Int × Int => #[.int .i64 y.1, .agg #[.int .i64 y.2.1, .int .i64 y.2.2]]) (Kp := Below u.heap.size) (S := fun ys => ys = dnL l l.length) (Sp := fun pre => ∃ m, m ≤ l.length ∧ pre = dnL l m) (N := l.length) (w0 := u)
    (fun lp J Jx W hW hJ hJx hY h0 => backward1_in Fence.wide _ trivial rfl (by omega) lp (w.heap.size + 1 + 1) u.heap.size cap (some ⟨b, o, none⟩) l hlen J Jx W hJ hW.size (by omega) hY ((hW.cell (p := ⟨w.heap.size + 1 + 1, 0, none⟩) (show w.heap.size + 1 + 1 < u.heap.size by omega)).trans (L0.out.cell 0))
      (.inr ⟨b, o, rfl, by omega, fun j hj => ⟨((B0.trans (hW.mono (by omega))).cell (p := ⟨b, _, none⟩) hb).trans (HC.out j hj).1, ((B0.trans (hW.mono (by omega))).cell (p := ⟨b, _, none⟩) hb).trans (HC.out j hj).2⟩⟩) h0)
    belowK_t (belowK_b (Nat.le_refl _)) (Below.refl _ _) (fun _ => rfl)
    (HuI w day) (HuX w day)
    (fun s A B row hs hg hr => ⟨⟨hs.1.1.grownN hg (fun r e => (hr r e).2), hs.1.2.1.grownN hg (fun r e => (hr r e).2), hs.1.2.2⟩, hs.2.1.grown hg hs.2.1.size (fun r e => by have := (hr r e).1; omega), Nat.le_trans hs.2.2 hg.size⟩)
    (fun c s A B row hs hg hr => by
      obtain ⟨⟨h0, pre', x, h1, h2, h3, h4⟩, h5⟩ := hs
      exact ⟨⟨h0, pre', x, h1, h2, h3, h4.grownN hg (fun r e => (hr r e).2)⟩, h5.grown hg h5.size (fun r e => by have := (hr r e).1; omega)⟩)
    ⟨⟨D0.out, R0.out, fun x h => by simp at h⟩, B0, by omega⟩
    (fun x a' W => ∃ Bx, u.heap.size ≤ Bx ∧ Box W Bx #[.int .i64 x.2.1, .int .i64 x.2.2] 52 ∧ a' = { tmps := #[.slice (some ⟨b, o, none⟩) l.length cap, .int .i64 day, undef, .pointer (some ⟨w.heap.size, 0, none⟩), .pointer (some ⟨w.heap.size + 1, 0, none⟩), undef, .pointer (some ⟨Bx, 0, none⟩), .slice (some ⟨b, o, none⟩) l.length cap, .func (.func 123) #[] #[.pointer (some ⟨w.heap.size + 1 + 1, 0, none⟩)], .int .i64 x.1, .agg #[.int .i64 x.2.1, .int .i64 x.2.2], undef, undef, undef, undef, undef, undef, undef, undef, undef, undef], defers := [] })
    (fun x a' s A B row hs hg hr => by
      obtain ⟨Bx, h1, h2, h3⟩ := hs
      exact ⟨Bx, h1, h2.grownN hg (fun r e => (hr r e).2), h3⟩)
    ?assign ?body ?done ?stop
  case assign =>
    rintro lp pre ⟨i, d, h⟩ W K hi hK
    gi_wp2
    refine hK _ _ ((KeepsOthers.alloc _ _).from _) ((Below.refl _ W).alloc (by have := hi.2.2; omega) _) ?_ ⟨W.heap.size, (by have := hi.2.2; omega), Box.new W _ _ rfl, rfl⟩
    exact ⟨⟨hi.1.1.alloc _, hi.1.2.1.alloc _, hi.1.2.2⟩, hi.2.1.alloc hi.2.1.size _, by have := hi.2.2; simp; omega⟩
  case body =>
    rintro lp pre ⟨i, d, h⟩ a' W hlp hr ⟨⟨hD, hR, hP⟩, hB, hZ⟩ ⟨Bx, hBx, bX, rfl⟩ hlt
    dsimp only at bX
    obtain ⟨x0, x1, -⟩ := bX.two
    obtain ⟨y0, -⟩ := hD.one
    obtain ⟨r0, rf⟩ := hR.one
    have lx := bX.lt; have ld := hD.lt; have lr := hR.lt
    have HP := Lib.hid hP; clear hP
    by_cases hdd : d ≤ day
    · gi_wp2
      refine ⟨(KeepsOthers.setCell _ _ _).from _, ⟨rfl, pre, (i, d, h), rfl, ?_, hdd, hR.set 0 _⟩, hB.setCell (p := ⟨w.heap.size + 1, 0, none⟩) (by simp) _⟩
      intro y hy; have := HP.out y hy; omega
    · gi_wp2
      refine ⟨(KeepsOthers.refl W).from _, Below.refl _ _, ⟨⟨hD, hR, fun y hy => ?_⟩, hB, hZ⟩⟩
      rcases List.mem_append.1 hy with h1 | h1
      · have := HP.out y h1; omega
      · simp at h1; subst h1; show ¬ d ≤ day; omega
  case done =>
    rintro D ys W hDl rfl ⟨⟨hD, hR, hP⟩, hB, hZ⟩ hK
    have HV := Lib.hid (huV_none hP); clear hP
    obtain ⟨c0, c1⟩ := HC.out 0 hl0
    have c1 := (hB.cell (p := ⟨b, _, none⟩) hb).trans c1
    have HL := Lib.hid (show ∃ h, (l[0]).2 = h from ⟨_, rfl⟩)
    obtain ⟨h, hh⟩ := HL.out
    rw [hh] at c1
    simp only [Nat.zero_mul, Nat.add_zero] at c1
    have HVV := Lib.hid (show huV l day = h by rw [HV.out]; simp [List.getD_eq_getElem?_getD, List.getElem?_eq_getElem hl0, hh])
    obtain ⟨r0, rf⟩ := hR.one
    have lr := hR.lt
    have hbl : b < W.heap.size := Nat.lt_of_lt_of_le hb hB.size
    clear c0 hh HL
    gi_wp2
    have hK2 : (W.setCell ⟨w.heap.size + 1, 0, none⟩ (.int .i64 h)).heap[D]? = some (.deferred (some [])) := (Below.heap_setCell W _ _ _ (by show D ≠ w.heap.size + 1; omega)).trans hK
    have c5 : ((W.setCell ⟨w.heap.size + 1, 0, none⟩ (.int .i64 h)).putObj D (.deferred none)).cell? ⟨w.heap.size + 1, 0, none⟩ = some (.int .i64 h) :=
      (World.cell?_of_block (World.putObj_heap_other (k := w.heap.size + 1) (by omega))).trans (World.cell?_setCell_same' _ _ _ (by rw [r0]; rfl))
    refine ⟨by simp, .inl ⟨_, _, rfl, run_takeDeferred hK2, ?_⟩⟩
    refine ⟨_, (by simp [results, Tryd.results84, go_sem, c5]; rfl), by rw [HVV.out], ?_⟩
    exact (hB.setCell (p := ⟨w.heap.size + 1, 0, none⟩) (by simp) _).trans (belowK_b (w := w) (Nat.le_refl _) _ D _ _ (by omega) hK2 rfl rfl)
  case stop =>
    rintro D c pre W hDl ⟨m, hm, hpre⟩ ⟨⟨rfl, pre', x, h1, h2, h3, h4⟩, hB⟩ hK
    have HV := Lib.hid (huV_found hm (hpre ▸ h1) h2 h3)
    obtain ⟨r0, rf⟩ := h4.one
    gi_wp2
    have c5 : (W.putObj D (.deferred none)).cell? ⟨w.heap.size + 1, 0, none⟩ = some (.int .i64 x.2.2) :=
      (World.cell?_of_block (World.putObj_heap_other (k := w.heap.size + 1) (by omega))).trans r0
    refine ⟨by simp, .inl ⟨_, _, rfl, run_takeDeferred hK, ?_⟩⟩
    refine ⟨_, (by simp [results, Tryd.results84, go_sem, c5]; rfl), by rw [HV.out], ?_⟩
    exact hB.trans (belowK_b (w := w) (Nat.le_refl _) _ D _ _ (by omega) hK rfl rfl)
end Go.Proofs.YtnjlifmjjihahaaDoor
