/-
  All explanations with so many notes: (outcome).explanations. Condition: the numbers fit in 64 bits; there are at most 100000 sets.
-/
import Derived.Test.YtnjlifmjjihahaaDoorSub
import Derived.Test.YtnjlifmjjihahaaDoorOut
namespace Go.Proofs.YtnjlifmjjihahaaDoor
open Go Go.RowKit Go.Shelf
attribute [local go_sem] Oper.semAt_some
def exps (s : Nat → Nat) (f sz : Nat) : List (List Int) := (comb sz (ntsI s 88)).filter fun c => decide (exE s f c = 0)
theorem infoSl : (Tryd.prog.info? 42).map (fun i => (i.zero, i.size, i.bytes)) = some (some (.slice none 0 0), 1, 24) := by kernel_rfl
theorem owns_grown {w w' : World} {b : Nat} {e : TypeId} {z : Nat} {v : Value} {n : Nat} {xs : List Value} {row : Option Nat} (h : w.ownsRow b e z v n xs) (hg : w.grownBy w' row) (hr : ∀ r, row = some r → r < b) : w'.ownsRow b e z v n xs := by
  refine ⟨h.1, ?_⟩
  rcases h.2 with h | ⟨g, cap, cur, h1, h2, h3, h4⟩
  · exact .inl h
  · exact .inr ⟨g, cap, cur, h1, h2, (hg.block g (Array.getElem?_eq_some_iff.1 h3).1 (fun e => by have := hr g e.symm; omega)).trans h3, h4⟩
theorem owns_grownOwn {w w' : World} {b : Nat} {e e' : TypeId} {z z' : Nat} {v v' : Value} {n n' : Nat} {xs xs' : List Value} (h : w.ownsRow b e z v n xs) (h' : w.ownsRow b e' z' v' n' xs') (hne : e ≠ e') (hg : w.grownBy w' v'.ownBlock) : w'.ownsRow b e z v n xs := by
  refine ⟨h.1, ?_⟩
  rcases h.2 with h | ⟨g, cap, cur, h1, h2, h3, h4⟩
  · exact .inl h
  · refine .inr ⟨g, cap, cur, h1, h2, (hg.block g (Array.getElem?_eq_some_iff.1 h3).1 (fun ee => ?_)).trans h3, h4⟩
    rcases h'.2 with ⟨rfl, _⟩ | ⟨g', cap', cur', rfl, h2', h3', h4'⟩
    · simp [Value.ownBlock] at ee
    · simp [Value.ownBlock] at ee
      subst ee
      rw [h3] at h3'
      cases h3'
      exact hne rfl
/-- a row of rows of the call's own -/
def RowsO (w : World) (B : Nat) (v : Value) (ll : List (List Int)) : Prop := ∃ vs : List Value, w.ownsRow B 42 1 v ll.length vs ∧ vs.length = ll.length ∧ ∀ j (h : j < ll.length) (h' : j < vs.length), OwnI w B vs[j] ll[j]
theorem RowsO.nil (w : World) (B : Nat) : RowsO w B (.slice none 0 0) [] := ⟨[], World.ownsRow_nil _ _ _ _, rfl, fun j h => by simp at h⟩
theorem RowsO.keep {w w' : World} {B : Nat} {v : Value} {ll : List (List Int)} (h : RowsO w B v ll) (hb : Below w.heap.size w w') : RowsO w' B v ll := by
  obtain ⟨vs, h1, h2, h3⟩ := h
  exact ⟨vs, owns_keep h1 hb, h2, fun j a b => (h3 j a b).keep hb⟩
theorem RowsO.grown {w w' : World} {B : Nat} {v : Value} {ll : List (List Int)} {row : Option Nat} (h : RowsO w B v ll) (hg : w.grownBy w' row) (hr : ∀ r, row = some r → r < B) : RowsO w' B v ll := by
  obtain ⟨vs, h1, h2, h3⟩ := h
  exact ⟨vs, owns_grown h1 hg hr, h2, fun j a b => owns_grown (h3 j a b) hg hr⟩
theorem RowsO.base {w : World} {B B' : Nat} {v : Value} {ll : List (List Int)} (h : RowsO w B v ll) (hb : B' ≤ B) : RowsO w B' v ll := by
  obtain ⟨vs, h1, h2, h3⟩ := h
  exact ⟨vs, owns_base h1 hb, h2, fun j a b => (h3 j a b).base hb⟩
theorem RowsO.putObj {w : World} {B : Nat} {v : Value} {ll : List (List Int)} (h : RowsO w B v ll) {l : Nat} {o : Obj} (o' : Obj) (hl : w.heap[l]? = some o) (ho : o.isCells = false) : RowsO (w.putObj l o') B v ll := by
  obtain ⟨vs, h1, h2, h3⟩ := h
  exact ⟨vs, ownsRow_putObj h1 o' hl ho, h2, fun j a b => ownsRow_putObj (h3 j a b) o' hl ho⟩
theorem own_cells {w : World} {b : Nat} {e : TypeId} {z : Nat} {v : Value} {n : Nat} {xs : List Value} (h : w.ownsRow b e z v n xs) : ∀ (j : Nat) (o : Obj), v.ownBlock = some j → w.heap[j]? = some o → o.isCells = true := by
  intro j o hj ho
  rcases h.2 with ⟨rfl, _⟩ | ⟨g, cap, cur, rfl, h1, h2, h3⟩
  · simp [Value.ownBlock] at hj
  · simp [Value.ownBlock] at hj
    subst hj
    rw [h2] at ho; cases ho; rfl
theorem RowsO.snoc {w w6 : World} {B : Nat} {v v' cv : Value} {ll : List (List Int)} {set : List Int} {vs : List Value} (r1 : w.ownsRow B 42 1 v ll.length vs) (r2 : vs.length = ll.length) (r3 : ∀ j (h : j < ll.length) (h' : j < vs.length), OwnI w B vs[j] ll[j]) (hc : OwnI w B cv set)
    (hg : w.grownBy w6 v.ownBlock) (hown : w6.ownsRow B 42 1 v' (ll.length + 1) (vs ++ [cv])) : RowsO w6 B v' (ll ++ [set]) := by
  have hne : (3 : Nat) ≠ 42 := by decide
  refine ⟨vs ++ [cv], by simpa using hown, by simp [r2], fun j h h' => ?_⟩
  by_cases hj : j < ll.length
  · rw [List.getElem_append_left (by omega), List.getElem_append_left hj]
    exact owns_grownOwn (r3 j hj (by omega)) r1 hne hg
  · have hj' : j = ll.length := by simp at h; omega
    subst hj'
    rw [List.getElem_append_right (by omega), List.getElem_append_right (by omega)]
    simp only [r2, Nat.sub_self, List.getElem_cons_zero]
    exact owns_grownOwn hc r1 hne hg
theorem wpListIn_load {F : Fence} {n : Nat} {P : Program} {w : World} {ops : Array Oper} {rest : List Oper} {o : Oper} {a : Act} {Q : Exit → Act → World → Prop} (hg : o.guard = none) (ty : TypeId) (x : Operand) (hop : o.op = .load ty x)
    (ad : Addr) (hx : a.eval x = .pointer (some ad)) (v : Value) (hr : (Instr.loadAt ty (.pointer (some ad))).run P w = .ok v w) (h : wpListIn F n P ops Q rest (a.put o.dst v) w) : wpListIn F n P ops Q (o :: rest) a w := by
  refine wpListIn_plain hg fun K hK' => ?_
  unfold Oper.wpIn
  refine ⟨?_, ?_⟩
  · simp [Oper.about, hop]
  · rw [Oper.semAt_plain F _ _ (by rw [hop]; intro c hc'; cases hc')]
    simp [execOp, hop, hx, hr, Result.andThen]
    exact hK' _ _ h
theorem wpIn_append_own1 {F : Fence} {n : Nat} {P : Program} (w : World) {o : Oper} {a : Act} {K : Act → World → Prop} {Q : Exit → Act → World → Prop} {c : Bool} {E : Prop} (hw : c = true)
    (s x : Operand) (t : TypeId) (hop : o.op = Op.call { callee := Callee.builtin Builtin.append, args := #[s, x], argTypes := #[t, t] })
    (base : Nat) (e : TypeId) (i : TypeInfo) (z : Value) (size bytes : Nat) (h1 : P.underlying t = some (.slice e)) (h2 : P.info? e = some i) (h3 : i.zero = some z) (h4 : i.size = size) (h5 : i.bytes = bytes) (h6 : z.cells.size = size) (h7 : 0 < size)
    (v : Value) (k : Nat) (xs : List Value) (hs : a.eval s = v) (hown : w.ownsRow base e size v k xs) (ad : Addr) (m cc : Nat) (news : List Value) (hx : a.eval x = .slice (some ad) m cc) (hn : news.length = m * size)
    (hc : ∀ j u, news[j]? = some u → w.cell? (ad.add j) = some u) (h1c : ∀ u ∈ news, u.oneCell' = true) (b1 : k + m ≤ maxLen) (b2 : (k + m) * bytes ≤ 140737488355328) (b3 : base ≤ w.heap.size)
    (hK : ∀ v' w', w'.ownsRow base e size v' (k + m) (xs ++ news) → w.grownBy w' v.ownBlock → K (a.put o.dst v') w') :
    if c = true then Oper.wpIn F n P o a w K Q else E := by
  rw [if_pos hw]
  obtain ⟨v', w', hrun, r1, r2, r3⟩ := run_append_own (P := P) w base t o.type e i z size bytes h1 h2 h3 h4 h5 h6 h7 v k xs hown ad m cc news hn hc h1c b1 b2 b3
  unfold Oper.wpIn
  refine ⟨?_, ?_⟩
  · simp [Oper.about, hop, resolve, Target.leads, Sem.run_pure]
  · rw [Oper.semAt_plain F _ _ (by rw [hop]; intro c hc'; cases hc')]
    simp [execOp, hop, resolve, invoke, builtin, hs, hx, hrun, Result.andThen]
    exact hK v' w' r1 r2
theorem keeps_below {W W' : World} (h : Below W.heap.size W W') : KeepsOthers W W' := ⟨h.size, fun k o hk _ => (h.block k (by
  rcases Nat.lt_or_ge k W.heap.size with h' | h'
  · exact h'
  · rw [Array.getElem?_eq_none h'] at hk; cases hk)).trans hk⟩
theorem sgc_range (s : Nat → Nat) (f : Nat) {w : World} {b : Nat} {t : TypeId} (h : Box w b (ogc s f) t) : w.rangeAt b 0 (sgc s).toList := fun j v hv => by
  rw [Nat.zero_add, h.cell j]
  have hj : j < 88 := by
    have := (List.getElem?_eq_some_iff.1 hv).1
    rw [Array.length_toList, sgc_size] at this; exact this
  rw [ogc_at s f j hj]
  rw [Array.getElem?_toList] at hv
  rw [← hv]; simp [sgc, hj]
theorem ogc_range (s : Nat → Nat) (f : Nat) {w : World} {b : Nat} {t : TypeId} (h : Box w b (ogc s f) t) : w.rangeAt b 0 (ogc s f).toList := fun j v hv => by
  rw [Nat.zero_add, h.cell j, ← Array.getElem?_toList]; exact hv
theorem nts_mem {s : Nat → Nat} {x : Int} (h : x ∈ ntsI s 88) : 0 ≤ x ∧ x ≤ 87 := by
  obtain ⟨n, hn, rfl⟩ := List.mem_map.1 h
  have := List.mem_range.1 (List.mem_filter.1 hn).1
  omega
def ExpR (s : Nat → Nat) (f sz : Nat) (w : World) (e : Ending) (w' : World) : Prop := (∃ v, e = .returned v ∧ RowsO w' w.heap.size v (exps s f sz)) ∧ Below w.heap.size w w'
set_option maxRecDepth 100000 in
set_option maxHeartbeats 6400000 in
theorem explanations_in (s : Nat → Nat) (f sz : Nat) (w : World) (hs : NatB s) (hf : f < 18446744073709551616) (hsz : sz ≤ 100) (hN : (comb sz (ntsI s 88)).length ≤ 100000) :
    CallsIn Fence.wide 5 Tryd.prog 105 #[.agg (ogc s f), .int .i64 sz] w (ExpR s f sz w) := by
  have HNS := Lib.hid hN; clear hN
  refine callsIn_of_wp_marks Tryd.func105 rfl trivial ?_ rfl
  simp only [Tryd.ntmps105, List.size_toArray, List.length_cons, List.length_nil, Nat.reduceAdd, Nat.reduceSub, Array.replicate_succ, Array.replicate_zero, List.push_toArray, List.append_toArray, List.nil_append, List.cons_append]
  have X0 := Lib.hid ((Box.new w (ogc s f) 138 (n := w.heap.size) rfl).alloc (.cells #[.slice none 0 0] 91))
  have F0 := Lib.hid (Box.new (w.alloc (.cells (ogc s f) 138)) #[.slice none 0 0] 91 (n := w.heap.size + 1) (by simp))
  have B0 : Below w.heap.size w ((w.alloc (.cells (ogc s f) 138)).alloc (.cells #[.slice none 0 0] 91)) := by (repeat' (first | (with_reducible exact Below.refl _ _) | (with_reducible assumption) | (with_reducible refine Below.drew ?_) | (with_reducible refine below_drewN ?_ _) | (with_reducible refine Below.setCell ?_ ?_ _) | (with_reducible refine Below.alloc ?_ ?_ _) | go_size | omega))
  gi_wp2_with (first
    | (refine wpListIn_load rfl 127 (.tmp 7) rfl ⟨w.heap.size, 0, none⟩ rfl (.agg (sgc s)) (by have h := run_loadAt_mid (P := Tryd.prog) _ w.heap.size 0 127 (sgc s).toList _ (sgc_range s f X0.out) Tryd.underlying127 rfl (by rw [Array.length_toList]; exact infoSgs s); rwa [Array.toArray_toList] at h) ?_)
    | ((try refine ⟨trivial, ?_⟩); gi_at_call 92; refine (callsIn_wide.2 (notes_any s _)).mono ?_; rintro e w2 ⟨v2, rfl, hO2, h2⟩; have B2 : Below w.heap.size w w2 := below_via B0 h2; have X2 := Lib.hid (X0.out.keep h2); have F2 := Lib.hid (F0.out.keep h2); obtain ⟨a2, c2, rfl⟩ := owns_form hO2))
  refine ⟨trivial, ?_⟩
  gi_at_call 120
  refine (callsIn_wide.2 (subsets_any _ _ _ sz _)).mono ?_
  rintro e w' ⟨rfl, rfl⟩
  gi_wp2
  have X3 := Lib.hid ((X2.out.alloc (.cells #[.slice a2 (ntsI s 88).length c2] 42)).alloc (.cells #[.int .i64 sz] 3))
  have F3 := Lib.hid ((F2.out.alloc (.cells #[.slice a2 (ntsI s 88).length c2] 42)).alloc (.cells #[.int .i64 sz] 3))
  have L3 := (Box.new w2 #[.slice a2 (ntsI s 88).length c2] 42 (n := w2.heap.size) rfl).alloc (.cells #[.int .i64 sz] 3)
  have S3 := Box.new (w2.alloc (.cells #[.slice a2 (ntsI s 88).length c2] 42)) #[.int .i64 sz] 3 (n := w2.heap.size + 1) (by simp)
  have hw2 : w.heap.size + 1 < w2.heap.size := F2.out.lt
  have B3 : Below w.heap.size w ((w2.alloc (.cells #[.slice a2 (ntsI s 88).length c2] 42)).alloc (.cells #[.int .i64 sz] 3)) := by (repeat' (first | (with_reducible exact Below.refl _ _) | (with_reducible assumption) | (with_reducible refine Below.drew ?_) | (with_reducible refine below_drewN ?_ _) | (with_reducible refine Below.setCell ?_ ?_ _) | (with_reducible refine Below.alloc ?_ ?_ _) | go_size | omega))
  have z3 : ((w2.alloc (.cells #[.slice a2 (ntsI s 88).length c2] 42)).alloc (.cells #[.int .i64 sz] 3)).heap.size = w2.heap.size + 1 + 1 := by simp
  have HR := Lib.hid (show RdN (fun r => r < ((w2.alloc (.cells #[.slice a2 (ntsI s 88).length c2] 42)).alloc (.cells #[.int .i64 sz] 3)).heap.size ∧ r ≠ w.heap.size + 1) ((w2.alloc (.cells #[.slice a2 (ntsI s 88).length c2] 42)).alloc (.cells #[.int .i64 sz] 3)) a2 (ntsI s 88) by
    rcases hO2.2 with ⟨h0, h1⟩ | ⟨g, cap', cur, h0, h1, h2, h3⟩
    · exact .inl (List.length_eq_zero_iff.1 h1)
    · have hg := (Array.getElem?_eq_some_iff.1 h2).1
      simp at h1
      refine .inr ⟨g, 0, by cases h0; rfl, ⟨⟨by rw [z3]; omega, by omega⟩, by rw [z3]; omega⟩, fun j hj => ?_⟩
      obtain ⟨a', cap'', e1, e2⟩ := OwnI.rd hO2
      cases e1
      rcases e2 with e2 | ⟨b, o, e3, e4, e5⟩
      · rw [e2] at hj; simp at hj
      · cases h0; cases e3
        rw [World.cell?_alloc_past _ _ _ (by simp; omega), World.cell?_alloc_past _ _ _ (by simpa using e4)]
        exact e5 j hj)
  have hcap : (ntsI s 88).length ≤ c2 := by
    rcases hO2.2 with ⟨h0, h1⟩ | ⟨g, cap', cur, h0, h1, h2, h3, h4⟩
    · omega
    · cases h0; exact h3
  have hlen : (ntsI s 88).length ≤ 100 := by
    have := ntsTo_len s 88
    unfold ntsI; rw [List.length_map]; omega
  have q3 : ((w2.alloc (.cells #[.slice a2 (ntsI s 88).length c2] 42)).alloc (.cells #[.int .i64 sz] 3)).cell? ⟨w2.heap.size, 0, none⟩ = some (.slice a2 (ntsI s 88).length c2) := L3.cell 0
  have q4 : ((w2.alloc (.cells #[.slice a2 (ntsI s 88).length c2] 42)).alloc (.cells #[.int .i64 sz] 3)).cell? ⟨w2.heap.size + 1, 0, none⟩ = some (.int .i64 sz) := S3.cell 0
  clear L3 S3 X2 F2 hO2 X0 F0
  generalize hub : ((w2.alloc (.cells #[.slice a2 (ntsI s 88).length c2] 42)).alloc (.cells #[.int .i64 sz] 3)) = u at *
  clear hub
  refine wpIn_rangeFunc_C rfl (by omega) (gf := 125) (lb := #[.pointer (some ⟨w2.heap.size + 1, 0, none⟩), .pointer (some ⟨w2.heap.size, 0, none⟩)]) rfl trivial (enters_of Tryd.func125 (by kernel_rfl) rfl)
    (Kb := fun r => r < u.heap.size ∧ r ≠ w.heap.size + 1) (fun r h => h.1) ?hAt
    (subsets1_seq Fence.wide rfl trivial trivial rfl _ w2.heap.size (w2.heap.size + 1) sz 100000 _ (ntsI s 88) a2 c2 u hsz (by omega) (by omega) q3 q4 (fun r h => h.1) HR.out hcap hlen HNS.out) (fun _ => rfl)
    (fun pre W => ((∃ v, Box W (w.heap.size + 1) #[v] 91 ∧ RowsO W (u.heap.size + 3) v ((pre.map Prod.snd).filter fun c => decide (exE s f c = 0))) ∧ Box W w.heap.size (ogc s f) 138) ∧ Below w.heap.size w W)
    ?hI ⟨⟨⟨_, F3.out, RowsO.nil _ _⟩, X3.out⟩, B3⟩
    (fun x => { tmps := #[.agg (ogc s f), .int .i64 sz, .pointer (some ⟨w.heap.size, 0, none⟩), undef, .slice none 0 0, .pointer (some ⟨w.heap.size + 1, 0, none⟩), .slice (some ⟨x.1, 0, none⟩) sz sz, .pointer (some ⟨w.heap.size, 0, none⟩), .agg (sgc s), .slice a2 (ntsI s 88).length c2, .int .i64 sz, (.func (.func 125) #[] #[.pointer (some ⟨w2.heap.size + 1, 0, none⟩), .pointer (some ⟨w2.heap.size, 0, none⟩)]), .slice (some ⟨x.1, 0, none⟩) sz sz, undef, undef, undef, undef, undef, undef, undef, undef, undef, undef], defers := [] }) ?assign ?body ?done
  case hAt =>
    rintro x W W' row ⟨h1, h2, h3, h4, h5⟩ hg hr
    exact ⟨h1, h2, h3, h4, h5.kept (hg.block x.1 h5.lt (fun e => by have := hr x.1 e.symm; omega))⟩
  case hI =>
    rintro pre W W' row ⟨⟨⟨v, h1, h2⟩, h3⟩, h4⟩ hg hr
    exact ⟨⟨⟨v, h1.grown hg (fun r e => by have := hr r e; omega), h2.grown hg (fun r e => by have := hr r e; omega)⟩, h3.grown hg (fun r e => by have := hr r e; omega)⟩, h4.grown hg h4.size (fun r e => by have := hr r e; omega)⟩
  case assign =>
    intro m l x W K hK
    gi_wp2
    exact hK
  case body =>
    rintro m l pre ⟨blk, set⟩ W ⟨⟨⟨v, hF, hRows⟩, hX⟩, hB⟩ hlt hsz3 ⟨hx1, hx2, hx3, hx4, hx5⟩
    dsimp only at hx1 hx2 hx3 hx4 hx5 ⊢
    have hset : SetAt W (some ⟨blk, 0, none⟩) set := by
      obtain ⟨a', cap'', e1, e2⟩ := OwnI.rd (show OwnI W (u.heap.size + 2) (.slice (some ⟨blk, 0, none⟩) set.length sz) set from hx5)
      cases e1; exact e2
    have CX := Lib.hid (fun v (hv : SetAt v (some ⟨blk, 0, none⟩) set) => exErr_any s f sz (some ⟨blk, 0, none⟩) set v hs hf (by omega) (fun j hj => nts_mem (hx4 _ (List.getElem_mem hj))) hv)
    have CC := Lib.hid (fun v (hv : SetAt v (some ⟨blk, 0, none⟩) set) => cloneI_any set (some ⟨blk, 0, none⟩) sz v (by omega) hv)
    rw [hx1] at CX CC
    have HSET := Lib.hid hset; have HF := Lib.hid hF; have HX := Lib.hid hX; have HRW := Lib.hid hRows; have HQ := Lib.hid hx5
    have HM := Lib.hid (show ((pre ++ [(blk, set)]).map Prod.snd).filter (fun c => decide (exE s f c = 0)) = (pre.map Prod.snd).filter (fun c => decide (exE s f c = 0)) ++ if exE s f set = 0 then [set] else [] by
      rw [List.map_append, List.filter_append]; by_cases h : exE s f set = 0 <;> simp [h])
    have HE := Lib.hid (show ∃ x, exE s f set = x from ⟨_, rfl⟩)
    obtain ⟨e0, he0⟩ := HE.out
    rw [he0] at CX HM
    have lF := hF.lt; have lQ := hx5.lt
    have zB := hB.size
    clear hset hF hX hRows hx1 hx4 hx5 HE he0
    by_cases hz : e0 = 0
    · subst hz
      rw [if_pos rfl] at HM
      gi_wp2_with (refine wpListIn_load rfl 138 (.tmp 2) rfl ⟨w.heap.size, 0, none⟩ rfl (.agg (ogc s f)) (by have h := run_loadAt_mid (P := Tryd.prog) W w.heap.size 0 138 (ogc s f).toList _ (ogc_range s f HX.out) Tryd.underlying138 rfl (by rw [Array.length_toList]; exact infoOgs s f); rwa [Array.toArray_toList] at h) ?_)
      refine ⟨trivial, fun h => by simp [Fence.wide] at h, ?_⟩
      gi_at_call 102
      refine (CallsIn.inRound l (callsIn_wide.2 (CX.out _ HSET.out))).mono ?_
      rintro e w4 ⟨rfl, h4⟩
      gi_wp2
      have F4 := HF.out.keep h4
      have hlenpre : ((pre.map Prod.snd).filter fun c => decide (exE s f c = 0)).length ≤ 100000 := Nat.le_trans (List.length_filter_le _ _) (by simp; omega)
      obtain ⟨ll, hll⟩ : ∃ ll, (pre.map Prod.snd).filter (fun c => decide (exE s f c = 0)) = ll := ⟨_, rfl⟩
      rw [hll] at HRW HM hlenpre
      obtain ⟨vs, r1, r2, r3⟩ := HRW.out.keep h4
      have S4 := Lib.hid (HSET.out.keep h4)
      have CL := Lib.hid (CC.out w4.drew S4.out)
      have X4 := Lib.hid (HX.out.keep h4)
      have HQK := Lib.hid h4
      have f4 : w4.cell? ⟨w.heap.size + 1, 0, none⟩ = some v := F4.cell 0
      have l4 := F4.lt
      have z4 := h4.size
      have B4 := Lib.hid (hB.trans (h4.mono zB))
      have F4 := Lib.hid F4; have r3 := Lib.hid r3; have r2 := Lib.hid r2; have r1 := Lib.hid r1
      have HLL := Lib.hid hll
      clear hll h4 CX CC HX HRW HSET hB
      obtain ⟨i0, hi0, hz0, hz1, hz2⟩ := info_parts infoSl
      have hwm : Tryd.prog.follows .mixedOrders = true := by kernel_rfl
      refine wpIn_region_any hwm ?_
      (try (change wpAnyIn _ _ _ _ _ _ _ _ _ (World.drew _)))
      refine wpAnyIn_ready (rs := [0, 1]) (by kernel_rfl) (by simp) ?_
      refine AllReadyIn.cons rfl (fun K hK => ?_) ?_
      · go_simp
        refine hK _ _ ?_
        clear hK K
        refine wpAnyIn_ready (rs := [1]) (by kernel_rfl) (by simp) ?_
        refine AllReadyIn.cons rfl (fun K hK => ?_) ?_
        · go_simp
          refine hK _ _ ?_
          clear hK K
          refine wpAnyIn_ready (rs := [2]) (by kernel_rfl) (by simp) ?_
          refine AllReadyIn.cons rfl (fun K hK => ?_) ?_
          · go_simp
            refine ⟨trivial, fun h => by simp [Fence.wide] at h, ?_⟩
            gi_at_call 121
            refine (CallsIn.inRound l (callsIn_wide.2 CL.out)).mono ?_
            rintro e w5 ⟨⟨cv0, rfl, hcv⟩, h5⟩
            obtain ⟨ca, cc, rfl⟩ := owns_form hcv
            have h5 : Below w4.heap.size w4 w5 := (Below.refl w4.heap.size w4).drew.trans h5
            have F5 := Lib.hid (F4.out.keep h5)
            have f5 : w5.cell? ⟨w.heap.size + 1, 0, none⟩ = some v := F5.out.cell 0
            have l5 := F5.out.lt
            have H5 := Lib.hid h5
            have z5 := h5.size
            have HCV := Lib.hid (show OwnI w5 (u.heap.size + 3) (.slice ca set.length cc) set from OwnI.base hcv (by show u.heap.size + 3 ≤ w4.heap.size; omega))
            clear h5 hcv
            (try (refine hK _ _ ?_))
            (try clear hK K)
            refine wpAnyIn_ready (rs := [3]) (by kernel_rfl) (by simp) ?_
            refine AllReadyIn.cons rfl (fun K hK => ?_) ?_
            · go_simp
              refine hK _ _ ?_
              clear hK K
              refine wpAnyIn_ready (rs := [4]) (by kernel_rfl) (by simp) ?_
              refine AllReadyIn.cons rfl (fun K hK => ?_) ?_
              · refine wpIn_append_own1 _ (by kernel_rfl) (.tmp 17) (.tmp 20) 91 rfl (u.heap.size + 3) 42 i0 (.slice none 0 0) 1 24 Tryd.underlying91 hi0 hz0 hz1 hz2 rfl (by decide) v ll.length vs rfl (World.ownsRow.alloc (owns_keep r1.out H5.out) _) ⟨w5.heap.size, 0, none⟩ 1 1 [(.slice ca set.length cc)] rfl rfl (cell_one_new w5 (.slice ca set.length cc) 42) (by simp [Value.oneCell']) (by unfold maxLen; omega) (by omega) (by simp; omega) ?_
                intro v6 w6 hown6 hg6
                obtain ⟨va, vc, rfl⟩ := owns_form hown6
                have ge := own_ge (owns_keep r1.out H5.out)
                have F6 := Lib.hid ((F5.out.alloc (.cells #[(.slice ca set.length cc)] 42)).grown hg6 (fun g e => by have := (ge g e).1; omega))
                have X6 := Lib.hid (((X4.out.keep H5.out).alloc (.cells #[(.slice ca set.length cc)] 42)).grown hg6 (fun g e => by have := (ge g e).1; omega))
                have RO6 := Lib.hid (RowsO.snoc (World.ownsRow.alloc (owns_keep r1.out H5.out) (.cells #[(.slice ca set.length cc)] 42)) r2.out (fun j a b => World.ownsRow.alloc ((r3.out j a b).keep H5.out) (.cells #[(.slice ca set.length cc)] 42)) (World.ownsRow.alloc HCV.out (.cells #[(.slice ca set.length cc)] 42)) hg6 hown6)
                have HKO := Lib.hid (((keeps_below (HQK.out.trans (H5.out.mono z4))).trans (KeepsOthers.alloc _ (.cells #[(.slice ca set.length cc)] 42))).trans (KeepsOthers.of_grownBy hg6 (own_cells (World.ownsRow.alloc (owns_keep r1.out H5.out) (.cells #[(.slice ca set.length cc)] 42)))))
                have HKN := Lib.hid (((Kpn.below (Kb := fun r => r < u.heap.size ∧ r ≠ w.heap.size + 1) (HQK.out.trans (H5.out.mono z4))).trans (Kpn.grown (World.grownBy_alloc w5 (.cells #[(.slice ca set.length cc)] 42) none) (fun r e => by cases e))).trans (Kpn.grown hg6 (fun r e h => by have := (ge r e).1; omega)))
                have HKQ := Lib.hid (show ∀ r, u.heap.size + 2 ≤ r → r < u.heap.size + 2 + 1 → r < W.heap.size → w6.heap[r]? = W.heap[r]? from fun r a b c => ((hg6.block r (by simp; omega) (fun e => by have := (ge r e.symm).1; omega)).trans (Below.heap_alloc w5 (.cells #[(.slice ca set.length cc)] 42) r (by omega))).trans ((HQK.out.trans (H5.out.mono z4)).block r c))
                have B6 := Lib.hid (Below.grown ((B4.out.trans (H5.out.mono (by omega))).alloc (by omega) (.cells #[(.slice ca set.length cc)] 42)) hg6 (by simp; omega) (fun r e => by have := (ge r e).1; omega))
                have f6 : w6.cell? ⟨w.heap.size + 1, 0, none⟩ = some v := F6.out.cell 0
                have g6 : w6.frozen? ⟨w.heap.size + 1, 0, none⟩ = false := F6.out.free 0
                have l6 := F6.out.lt
                clear hown6 hg6 ge
                refine hK _ _ ?_
                clear hK K
                refine wpAnyIn_ready (rs := [5]) (by kernel_rfl) (by simp) ?_
                refine AllReadyIn.cons rfl (fun K hK => ?_) ?_
                · go_simp
                  refine hK _ _ ?_
                  clear hK K
                  refine wpAnyIn_done (by kernel_rfl) ?_ _
                  gi_wp2
                  refine ⟨HKO.out.trans (KeepsOthers.setCell _ _ _), ⟨HKN.out.trans (Kpn.set _ _ _ _ (fun h => h.2 rfl)), fun r a b c => (Below.heap_setCell _ ⟨w.heap.size + 1, 0, none⟩ _ r (by simp; omega)).trans (HKQ.out r a b c)⟩, ⟨⟨_, F6.out.set 0 _, by rw [HM.out]; exact RO6.out.grown (grownBy_setCell' _ _ _) (fun r e => by cases e; omega)⟩, X6.out.other _ _ (by simp)⟩, B6.out.setCell (by simp) _⟩
                exact AllReadyIn.nil
              exact AllReadyIn.nil
            exact AllReadyIn.nil
          exact AllReadyIn.nil
        exact AllReadyIn.nil
      refine AllReadyIn.cons rfl (fun K hK => ?_) ?_
      · go_simp
        refine hK _ _ ?_
        clear hK K
        refine wpAnyIn_ready (rs := [0, 2]) (by kernel_rfl) (by simp) ?_
        refine AllReadyIn.cons rfl (fun K hK => ?_) ?_
        · go_simp
          refine hK _ _ ?_
          clear hK K
          refine wpAnyIn_ready (rs := [2]) (by kernel_rfl) (by simp) ?_
          refine AllReadyIn.cons rfl (fun K hK => ?_) ?_
          · go_simp
            refine ⟨trivial, fun h => by simp [Fence.wide] at h, ?_⟩
            gi_at_call 121
            refine (CallsIn.inRound l (callsIn_wide.2 CL.out)).mono ?_
            rintro e w5 ⟨⟨cv0, rfl, hcv⟩, h5⟩
            obtain ⟨ca, cc, rfl⟩ := owns_form hcv
            have h5 : Below w4.heap.size w4 w5 := (Below.refl w4.heap.size w4).drew.trans h5
            have F5 := Lib.hid (F4.out.keep h5)
            have f5 : w5.cell? ⟨w.heap.size + 1, 0, none⟩ = some v := F5.out.cell 0
            have l5 := F5.out.lt
            have H5 := Lib.hid h5
            have z5 := h5.size
            have HCV := Lib.hid (show OwnI w5 (u.heap.size + 3) (.slice ca set.length cc) set from OwnI.base hcv (by show u.heap.size + 3 ≤ w4.heap.size; omega))
            clear h5 hcv
            (try (refine hK _ _ ?_))
            (try clear hK K)
            refine wpAnyIn_ready (rs := [3]) (by kernel_rfl) (by simp) ?_
            refine AllReadyIn.cons rfl (fun K hK => ?_) ?_
            · go_simp
              refine hK _ _ ?_
              clear hK K
              refine wpAnyIn_ready (rs := [4]) (by kernel_rfl) (by simp) ?_
              refine AllReadyIn.cons rfl (fun K hK => ?_) ?_
              · refine wpIn_append_own1 _ (by kernel_rfl) (.tmp 17) (.tmp 20) 91 rfl (u.heap.size + 3) 42 i0 (.slice none 0 0) 1 24 Tryd.underlying91 hi0 hz0 hz1 hz2 rfl (by decide) v ll.length vs rfl (World.ownsRow.alloc (owns_keep r1.out H5.out) _) ⟨w5.heap.size, 0, none⟩ 1 1 [(.slice ca set.length cc)] rfl rfl (cell_one_new w5 (.slice ca set.length cc) 42) (by simp [Value.oneCell']) (by unfold maxLen; omega) (by omega) (by simp; omega) ?_
                intro v6 w6 hown6 hg6
                obtain ⟨va, vc, rfl⟩ := owns_form hown6
                have ge := own_ge (owns_keep r1.out H5.out)
                have F6 := Lib.hid ((F5.out.alloc (.cells #[(.slice ca set.length cc)] 42)).grown hg6 (fun g e => by have := (ge g e).1; omega))
                have X6 := Lib.hid (((X4.out.keep H5.out).alloc (.cells #[(.slice ca set.length cc)] 42)).grown hg6 (fun g e => by have := (ge g e).1; omega))
                have RO6 := Lib.hid (RowsO.snoc (World.ownsRow.alloc (owns_keep r1.out H5.out) (.cells #[(.slice ca set.length cc)] 42)) r2.out (fun j a b => World.ownsRow.alloc ((r3.out j a b).keep H5.out) (.cells #[(.slice ca set.length cc)] 42)) (World.ownsRow.alloc HCV.out (.cells #[(.slice ca set.length cc)] 42)) hg6 hown6)
                have HKO := Lib.hid (((keeps_below (HQK.out.trans (H5.out.mono z4))).trans (KeepsOthers.alloc _ (.cells #[(.slice ca set.length cc)] 42))).trans (KeepsOthers.of_grownBy hg6 (own_cells (World.ownsRow.alloc (owns_keep r1.out H5.out) (.cells #[(.slice ca set.length cc)] 42)))))
                have HKN := Lib.hid (((Kpn.below (Kb := fun r => r < u.heap.size ∧ r ≠ w.heap.size + 1) (HQK.out.trans (H5.out.mono z4))).trans (Kpn.grown (World.grownBy_alloc w5 (.cells #[(.slice ca set.length cc)] 42) none) (fun r e => by cases e))).trans (Kpn.grown hg6 (fun r e h => by have := (ge r e).1; omega)))
                have HKQ := Lib.hid (show ∀ r, u.heap.size + 2 ≤ r → r < u.heap.size + 2 + 1 → r < W.heap.size → w6.heap[r]? = W.heap[r]? from fun r a b c => ((hg6.block r (by simp; omega) (fun e => by have := (ge r e.symm).1; omega)).trans (Below.heap_alloc w5 (.cells #[(.slice ca set.length cc)] 42) r (by omega))).trans ((HQK.out.trans (H5.out.mono z4)).block r c))
                have B6 := Lib.hid (Below.grown ((B4.out.trans (H5.out.mono (by omega))).alloc (by omega) (.cells #[(.slice ca set.length cc)] 42)) hg6 (by simp; omega) (fun r e => by have := (ge r e).1; omega))
                have f6 : w6.cell? ⟨w.heap.size + 1, 0, none⟩ = some v := F6.out.cell 0
                have g6 : w6.frozen? ⟨w.heap.size + 1, 0, none⟩ = false := F6.out.free 0
                have l6 := F6.out.lt
                clear hown6 hg6 ge
                refine hK _ _ ?_
                clear hK K
                refine wpAnyIn_ready (rs := [5]) (by kernel_rfl) (by simp) ?_
                refine AllReadyIn.cons rfl (fun K hK => ?_) ?_
                · go_simp
                  refine hK _ _ ?_
                  clear hK K
                  refine wpAnyIn_done (by kernel_rfl) ?_ _
                  gi_wp2
                  refine ⟨HKO.out.trans (KeepsOthers.setCell _ _ _), ⟨HKN.out.trans (Kpn.set _ _ _ _ (fun h => h.2 rfl)), fun r a b c => (Below.heap_setCell _ ⟨w.heap.size + 1, 0, none⟩ _ r (by simp; omega)).trans (HKQ.out r a b c)⟩, ⟨⟨_, F6.out.set 0 _, by rw [HM.out]; exact RO6.out.grown (grownBy_setCell' _ _ _) (fun r e => by cases e; omega)⟩, X6.out.other _ _ (by simp)⟩, B6.out.setCell (by simp) _⟩
                exact AllReadyIn.nil
              exact AllReadyIn.nil
            exact AllReadyIn.nil
          exact AllReadyIn.nil
        refine AllReadyIn.cons rfl (fun K hK => ?_) ?_
        · go_simp
          refine ⟨trivial, fun h => by simp [Fence.wide] at h, ?_⟩
          gi_at_call 121
          refine (CallsIn.inRound l (callsIn_wide.2 CL.out)).mono ?_
          rintro e w5 ⟨⟨cv0, rfl, hcv⟩, h5⟩
          obtain ⟨ca, cc, rfl⟩ := owns_form hcv
          have h5 : Below w4.heap.size w4 w5 := (Below.refl w4.heap.size w4).drew.trans h5
          have F5 := Lib.hid (F4.out.keep h5)
          have f5 : w5.cell? ⟨w.heap.size + 1, 0, none⟩ = some v := F5.out.cell 0
          have l5 := F5.out.lt
          have H5 := Lib.hid h5
          have z5 := h5.size
          have HCV := Lib.hid (show OwnI w5 (u.heap.size + 3) (.slice ca set.length cc) set from OwnI.base hcv (by show u.heap.size + 3 ≤ w4.heap.size; omega))
          clear h5 hcv
          (try (refine hK _ _ ?_))
          (try clear hK K)
          refine wpAnyIn_ready (rs := [0, 3]) (by kernel_rfl) (by simp) ?_
          refine AllReadyIn.cons rfl (fun K hK => ?_) ?_
          · go_simp
            refine hK _ _ ?_
            clear hK K
            refine wpAnyIn_ready (rs := [3]) (by kernel_rfl) (by simp) ?_
            refine AllReadyIn.cons rfl (fun K hK => ?_) ?_
            · go_simp
              refine hK _ _ ?_
              clear hK K
              refine wpAnyIn_ready (rs := [4]) (by kernel_rfl) (by simp) ?_
              refine AllReadyIn.cons rfl (fun K hK => ?_) ?_
              · refine wpIn_append_own1 _ (by kernel_rfl) (.tmp 17) (.tmp 20) 91 rfl (u.heap.size + 3) 42 i0 (.slice none 0 0) 1 24 Tryd.underlying91 hi0 hz0 hz1 hz2 rfl (by decide) v ll.length vs rfl (World.ownsRow.alloc (owns_keep r1.out H5.out) _) ⟨w5.heap.size, 0, none⟩ 1 1 [(.slice ca set.length cc)] rfl rfl (cell_one_new w5 (.slice ca set.length cc) 42) (by simp [Value.oneCell']) (by unfold maxLen; omega) (by omega) (by simp; omega) ?_
                intro v6 w6 hown6 hg6
                obtain ⟨va, vc, rfl⟩ := owns_form hown6
                have ge := own_ge (owns_keep r1.out H5.out)
                have F6 := Lib.hid ((F5.out.alloc (.cells #[(.slice ca set.length cc)] 42)).grown hg6 (fun g e => by have := (ge g e).1; omega))
                have X6 := Lib.hid (((X4.out.keep H5.out).alloc (.cells #[(.slice ca set.length cc)] 42)).grown hg6 (fun g e => by have := (ge g e).1; omega))
                have RO6 := Lib.hid (RowsO.snoc (World.ownsRow.alloc (owns_keep r1.out H5.out) (.cells #[(.slice ca set.length cc)] 42)) r2.out (fun j a b => World.ownsRow.alloc ((r3.out j a b).keep H5.out) (.cells #[(.slice ca set.length cc)] 42)) (World.ownsRow.alloc HCV.out (.cells #[(.slice ca set.length cc)] 42)) hg6 hown6)
                have HKO := Lib.hid (((keeps_below (HQK.out.trans (H5.out.mono z4))).trans (KeepsOthers.alloc _ (.cells #[(.slice ca set.length cc)] 42))).trans (KeepsOthers.of_grownBy hg6 (own_cells (World.ownsRow.alloc (owns_keep r1.out H5.out) (.cells #[(.slice ca set.length cc)] 42)))))
                have HKN := Lib.hid (((Kpn.below (Kb := fun r => r < u.heap.size ∧ r ≠ w.heap.size + 1) (HQK.out.trans (H5.out.mono z4))).trans (Kpn.grown (World.grownBy_alloc w5 (.cells #[(.slice ca set.length cc)] 42) none) (fun r e => by cases e))).trans (Kpn.grown hg6 (fun r e h => by have := (ge r e).1; omega)))
                have HKQ := Lib.hid (show ∀ r, u.heap.size + 2 ≤ r → r < u.heap.size + 2 + 1 → r < W.heap.size → w6.heap[r]? = W.heap[r]? from fun r a b c => ((hg6.block r (by simp; omega) (fun e => by have := (ge r e.symm).1; omega)).trans (Below.heap_alloc w5 (.cells #[(.slice ca set.length cc)] 42) r (by omega))).trans ((HQK.out.trans (H5.out.mono z4)).block r c))
                have B6 := Lib.hid (Below.grown ((B4.out.trans (H5.out.mono (by omega))).alloc (by omega) (.cells #[(.slice ca set.length cc)] 42)) hg6 (by simp; omega) (fun r e => by have := (ge r e).1; omega))
                have f6 : w6.cell? ⟨w.heap.size + 1, 0, none⟩ = some v := F6.out.cell 0
                have g6 : w6.frozen? ⟨w.heap.size + 1, 0, none⟩ = false := F6.out.free 0
                have l6 := F6.out.lt
                clear hown6 hg6 ge
                refine hK _ _ ?_
                clear hK K
                refine wpAnyIn_ready (rs := [5]) (by kernel_rfl) (by simp) ?_
                refine AllReadyIn.cons rfl (fun K hK => ?_) ?_
                · go_simp
                  refine hK _ _ ?_
                  clear hK K
                  refine wpAnyIn_done (by kernel_rfl) ?_ _
                  gi_wp2
                  refine ⟨HKO.out.trans (KeepsOthers.setCell _ _ _), ⟨HKN.out.trans (Kpn.set _ _ _ _ (fun h => h.2 rfl)), fun r a b c => (Below.heap_setCell _ ⟨w.heap.size + 1, 0, none⟩ _ r (by simp; omega)).trans (HKQ.out r a b c)⟩, ⟨⟨_, F6.out.set 0 _, by rw [HM.out]; exact RO6.out.grown (grownBy_setCell' _ _ _) (fun r e => by cases e; omega)⟩, X6.out.other _ _ (by simp)⟩, B6.out.setCell (by simp) _⟩
                exact AllReadyIn.nil
              exact AllReadyIn.nil
            exact AllReadyIn.nil
          refine AllReadyIn.cons rfl (fun K hK => ?_) ?_
          · go_simp
            refine hK _ _ ?_
            clear hK K
            refine wpAnyIn_ready (rs := [0]) (by kernel_rfl) (by simp) ?_
            refine AllReadyIn.cons rfl (fun K hK => ?_) ?_
            · go_simp
              refine hK _ _ ?_
              clear hK K
              refine wpAnyIn_ready (rs := [4]) (by kernel_rfl) (by simp) ?_
              refine AllReadyIn.cons rfl (fun K hK => ?_) ?_
              · refine wpIn_append_own1 _ (by kernel_rfl) (.tmp 17) (.tmp 20) 91 rfl (u.heap.size + 3) 42 i0 (.slice none 0 0) 1 24 Tryd.underlying91 hi0 hz0 hz1 hz2 rfl (by decide) v ll.length vs rfl (World.ownsRow.alloc (owns_keep r1.out H5.out) _) ⟨w5.heap.size, 0, none⟩ 1 1 [(.slice ca set.length cc)] rfl rfl (cell_one_new w5 (.slice ca set.length cc) 42) (by simp [Value.oneCell']) (by unfold maxLen; omega) (by omega) (by simp; omega) ?_
                intro v6 w6 hown6 hg6
                obtain ⟨va, vc, rfl⟩ := owns_form hown6
                have ge := own_ge (owns_keep r1.out H5.out)
                have F6 := Lib.hid ((F5.out.alloc (.cells #[(.slice ca set.length cc)] 42)).grown hg6 (fun g e => by have := (ge g e).1; omega))
                have X6 := Lib.hid (((X4.out.keep H5.out).alloc (.cells #[(.slice ca set.length cc)] 42)).grown hg6 (fun g e => by have := (ge g e).1; omega))
                have RO6 := Lib.hid (RowsO.snoc (World.ownsRow.alloc (owns_keep r1.out H5.out) (.cells #[(.slice ca set.length cc)] 42)) r2.out (fun j a b => World.ownsRow.alloc ((r3.out j a b).keep H5.out) (.cells #[(.slice ca set.length cc)] 42)) (World.ownsRow.alloc HCV.out (.cells #[(.slice ca set.length cc)] 42)) hg6 hown6)
                have HKO := Lib.hid (((keeps_below (HQK.out.trans (H5.out.mono z4))).trans (KeepsOthers.alloc _ (.cells #[(.slice ca set.length cc)] 42))).trans (KeepsOthers.of_grownBy hg6 (own_cells (World.ownsRow.alloc (owns_keep r1.out H5.out) (.cells #[(.slice ca set.length cc)] 42)))))
                have HKN := Lib.hid (((Kpn.below (Kb := fun r => r < u.heap.size ∧ r ≠ w.heap.size + 1) (HQK.out.trans (H5.out.mono z4))).trans (Kpn.grown (World.grownBy_alloc w5 (.cells #[(.slice ca set.length cc)] 42) none) (fun r e => by cases e))).trans (Kpn.grown hg6 (fun r e h => by have := (ge r e).1; omega)))
                have HKQ := Lib.hid (show ∀ r, u.heap.size + 2 ≤ r → r < u.heap.size + 2 + 1 → r < W.heap.size → w6.heap[r]? = W.heap[r]? from fun r a b c => ((hg6.block r (by simp; omega) (fun e => by have := (ge r e.symm).1; omega)).trans (Below.heap_alloc w5 (.cells #[(.slice ca set.length cc)] 42) r (by omega))).trans ((HQK.out.trans (H5.out.mono z4)).block r c))
                have B6 := Lib.hid (Below.grown ((B4.out.trans (H5.out.mono (by omega))).alloc (by omega) (.cells #[(.slice ca set.length cc)] 42)) hg6 (by simp; omega) (fun r e => by have := (ge r e).1; omega))
                have f6 : w6.cell? ⟨w.heap.size + 1, 0, none⟩ = some v := F6.out.cell 0
                have g6 : w6.frozen? ⟨w.heap.size + 1, 0, none⟩ = false := F6.out.free 0
                have l6 := F6.out.lt
                clear hown6 hg6 ge
                refine hK _ _ ?_
                clear hK K
                refine wpAnyIn_ready (rs := [5]) (by kernel_rfl) (by simp) ?_
                refine AllReadyIn.cons rfl (fun K hK => ?_) ?_
                · go_simp
                  refine hK _ _ ?_
                  clear hK K
                  refine wpAnyIn_done (by kernel_rfl) ?_ _
                  gi_wp2
                  refine ⟨HKO.out.trans (KeepsOthers.setCell _ _ _), ⟨HKN.out.trans (Kpn.set _ _ _ _ (fun h => h.2 rfl)), fun r a b c => (Below.heap_setCell _ ⟨w.heap.size + 1, 0, none⟩ _ r (by simp; omega)).trans (HKQ.out r a b c)⟩, ⟨⟨_, F6.out.set 0 _, by rw [HM.out]; exact RO6.out.grown (grownBy_setCell' _ _ _) (fun r e => by cases e; omega)⟩, X6.out.other _ _ (by simp)⟩, B6.out.setCell (by simp) _⟩
                exact AllReadyIn.nil
              exact AllReadyIn.nil
            exact AllReadyIn.nil
          exact AllReadyIn.nil
        exact AllReadyIn.nil
      exact AllReadyIn.nil
    · have hz' : (e0 == 0) = false := by simpa using hz
      rw [if_neg hz] at HM
      have HZ := Lib.hid hz; clear hz
      gi_wp2_with (refine wpListIn_load rfl 138 (.tmp 2) rfl ⟨w.heap.size, 0, none⟩ rfl (.agg (ogc s f)) (by have h := run_loadAt_mid (P := Tryd.prog) W w.heap.size 0 138 (ogc s f).toList _ (ogc_range s f HX.out) Tryd.underlying138 rfl (by rw [Array.length_toList]; exact infoOgs s f); rwa [Array.toArray_toList] at h) ?_)
      refine ⟨trivial, fun h => by simp [Fence.wide] at h, ?_⟩
      gi_at_call 102
      refine (CallsIn.inRound l (callsIn_wide.2 (CX.out _ HSET.out))).mono ?_
      rintro e w4 ⟨rfl, h4⟩
      gi_wp2
      refine ⟨keeps_below h4, ⟨Kpn.below h4, fun r _ _ h => h4.block r h⟩, ⟨⟨v, HF.out.keep h4, by rw [HM.out, List.append_nil]; exact HRW.out.keep h4⟩, HX.out.keep h4⟩, hB.trans (h4.mono zB)⟩
  case done =>
    rintro D ys W hD hys ⟨⟨⟨v, hF, hRows⟩, hX⟩, hB⟩ hK
    have f0 := hF.cell 0
    simp at f0
    have HRW := Lib.hid hRows; clear hRows
    gi_wp2
    refine ⟨by simp, .inl ⟨_, _, rfl, run_takeDeferred (show W.heap[D]? = some (.deferred (some [])) from hK), ?_⟩⟩
    have hl : (ys.map Prod.snd).filter (fun c => decide (exE s f c = 0)) = exps s f sz := by
      rw [hys, List.map_map]; unfold exps; simp [Function.comp_def]
    rw [hl] at HRW
    exact ⟨_, results_tmp rfl _ _ _, ⟨⟨v, rfl, (HRW.out.base (by omega)).putObj _ hK rfl⟩, hB.trans (belowK_b (w := w) (Nat.le_refl _) W D _ _ (by omega) hK rfl rfl)⟩⟩
end Go.Proofs.YtnjlifmjjihahaaDoor
