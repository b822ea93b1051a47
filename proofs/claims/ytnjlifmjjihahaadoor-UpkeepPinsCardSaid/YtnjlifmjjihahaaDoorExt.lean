/-
  All sets of so many elements of a list, one after the other: upkeep.extend, for whatever round that keeps what the iterator has laid. No condition but the lengths.
-/
import Derived.Test.YtnjlifmjjihahaaDoorRfl
import Derived.Test.YtnjlifmjjihahaaDoorClo
import Derived.Stop.RegionWithIn
namespace Go.Proofs.YtnjlifmjjihahaaDoor
open Go Go.RowKit Go.Shelf
attribute [local go_sem] Oper.semAt_some
/-- the sets of so many elements of a list, lexicographically -/
def comb : Nat → List Int → List (List Int)
  | 0, _ => [[]]
  | _ + 1, [] => []
  | k + 1, x :: xs => (comb k xs).map (x :: ·) ++ comb (k + 1) xs
/-- those that begin with one of the first i elements -/
def combTo (k : Nat) (l : List Int) (i : Nat) : List (List Int) := (List.range i).flatMap fun j => (comb k (l.drop (j + 1))).map (l.getD j 0 :: ·)
theorem combTo_succ (k : Nat) (l : List Int) (i : Nat) : combTo k l (i + 1) = combTo k l i ++ (comb k (l.drop (i + 1))).map (l.getD i 0 :: ·) := by
  unfold combTo; rw [List.range_succ, List.flatMap_append]; simp
theorem combTo_all (k : Nat) : ∀ l : List Int, combTo k l l.length = comb (k + 1) l
  | [] => rfl
  | x :: xs => by
    have h := combTo_all k xs
    unfold combTo at h ⊢
    rw [List.length_cons, List.range_succ_eq_map, List.flatMap_cons, List.flatMap_map, comb, ← h]
    simp
theorem combTo_mono (k : Nat) (l : List Int) {i j : Nat} (h : i ≤ j) : (combTo k l i).length ≤ (combTo k l j).length := by
  induction j with
  | zero => obtain rfl : i = 0 := by omega
            exact Nat.le_refl _
  | succ j ih =>
    by_cases e : i = j + 1
    · subst e; exact Nat.le_refl _
    · refine Nat.le_trans (ih (by omega)) ?_
      rw [combTo_succ]; simp
/-- a row that is read in a block of a set -/
def RdN (Kb : Nat → Prop) (w : World) (a : Option Addr) (l : List Int) : Prop := l = [] ∨ ∃ b o, a = some ⟨b, o, none⟩ ∧ (Kb b ∧ b < w.heap.size) ∧ ∀ j (h : j < l.length), w.cell? ⟨b, o + j, none⟩ = some (.int .i64 l[j])
theorem RdN.kept {Kb : Nat → Prop} {w w' : World} {a : Option Addr} {l : List Int} (h : RdN Kb w a l) (hb : Kpn Kb w w') : RdN Kb w' a l := by
  rcases h with h | ⟨b, o, e, hl, hc⟩
  · exact .inl h
  · exact .inr ⟨b, o, e, ⟨hl.1, Nat.lt_of_lt_of_le hl.2 hb.1⟩, fun j hj => (hb.cell hl.1 hl.2).trans (hc j hj)⟩
abbrev ChO (w : World) (B Bc sz : Nat) (c : List Int) : Prop := w.ownsRow B 3 1 (.slice (some ⟨Bc, 0, none⟩) c.length sz) c.length (c.map (Value.int .i64))
theorem ChO.prefix {w : World} {B Bc sz : Nat} {c : List Int} {x : Int} (h : ChO w B Bc sz (c ++ [x])) : ChO w B Bc sz c := by
  obtain ⟨h1, h2⟩ := h
  rcases h2 with ⟨h0, _⟩ | ⟨g, cap, cur, hv, hg, hc, h3, h4, h5, h6⟩
  · cases h0
  · cases hv
    refine ⟨by simp, .inr ⟨_, _, cur, rfl, hg, hc, by simp at h3; omega, h4, h5, ?_⟩⟩
    have : (cur.toList.take ((c ++ [x]).length * 1)).take (c.length * 1) = ((c ++ [x]).map (Value.int .i64)).take (c.length * 1) := by rw [h6]
    rw [List.take_take] at this
    rw [show min (c.length * 1) ((c ++ [x]).length * 1) = c.length * 1 by simp] at this
    rw [this]; simp
theorem ChO.kept {w w' : World} {B Bc sz : Nat} {c : List Int} (h : ChO w B Bc sz c) (hk : w'.heap[Bc]? = w.heap[Bc]?) : ChO w' B Bc sz c := by
  obtain ⟨h1, h2⟩ := h
  rcases h2 with ⟨h0, _⟩ | ⟨g, cap, cur, hv, hg, hc, h3⟩
  · cases h0
  · cases hv
    exact ⟨h1, .inr ⟨_, _, cur, rfl, hg, hk.trans hc, h3⟩⟩
theorem ChO.lt {w : World} {B Bc sz : Nat} {c : List Int} (h : ChO w B Bc sz c) : Bc < w.heap.size := by
  rcases h.2 with ⟨h0, _⟩ | ⟨g, cap, cur, hv, hg, hc, h3⟩
  · cases h0
  · cases hv; exact (Array.getElem?_eq_some_iff.1 hc).1
/-- a set at the iterator's own block -/
def SetQ (B k sz : Nat) (L : List Int) (x : Nat × List Int) (w : World) : Prop :=
  x.2.length = sz ∧ B ≤ x.1 ∧ x.1 < B + k ∧ (∀ v ∈ x.2, v ∈ L) ∧ ChO w B x.1 sz x.2
theorem grown_drew (w : World) : w.grownBy w.drew none := ⟨rfl, rfl, rfl, Nat.le_refl _, fun _ _ _ => rfl⟩
theorem wpIn_append_fits {F : Fence} {n : Nat} {P : Program} (w : World) {o : Oper} {a : Act} {K : Act → World → Prop} {Q : Exit → Act → World → Prop} {c : Bool} {E : Prop} (hw : c = true)
    (s x : Operand) (t : TypeId) (hop : o.op = Op.call { callee := Callee.builtin Builtin.append, args := #[s, x], argTypes := #[t, t] })
    (base : Nat) (e : TypeId) (i : TypeInfo) (size : Nat) (h1 : P.underlying t = some (.slice e)) (h2 : P.info? e = some i) (h4 : i.size = size)
    (g k cap : Nat) (xs : List Value) (hs : a.eval s = .slice (some ⟨g, 0, none⟩) k cap) (hown : w.ownsRow base e size (.slice (some ⟨g, 0, none⟩) k cap) k xs) (ad : Addr) (m cc : Nat) (news : List Value) (hx : a.eval x = .slice (some ad) m cc) (hn : news.length = m * size)
    (hc : ∀ j u, news[j]? = some u → w.cell? (ad.add j) = some u) (h1c : ∀ u ∈ news, u.oneCell' = true) (b1 : k + m ≤ cap)
    (hK : ∀ w', w'.ownsRow base e size (.slice (some ⟨g, 0, none⟩) (k + m) cap) (k + m) (xs ++ news) → w.grownBy w' (some g) → K (a.put o.dst (.slice (some ⟨g, 0, none⟩) (k + m) cap)) w') :
    if c = true then Oper.wpIn F n P o a w K Q else E := by
  rw [if_pos hw]
  obtain ⟨w', hrun, r1, r2⟩ := run_append_fits (P := P) w base t o.type e i size h1 h2 h4 g k cap xs hown ad m cc news hn hc h1c b1
  unfold Oper.wpIn
  refine ⟨?_, ?_⟩
  · simp [Oper.about, hop, resolve, Target.leads, Sem.run_pure]
  · rw [Oper.semAt_plain F _ _ (by rw [hop]; intro c hc'; cases hc')]
    simp [execOp, hop, resolve, invoke, builtin, hs, hx, hrun, Result.andThen]
    exact hK w' r1 r2
theorem sliceFrom (b o len cap j : Nat) (h : j + 1 ≤ len) (hc : len ≤ cap) (hm : len ≤ 1000) : ∃ a', (∀ w, (Instr.slice 42 (.slice (some ⟨b, o, none⟩) len cap) (some (.int .i64 ((j : Int) + 1))) none none).run Tryd.prog w = .ok (.slice a' (len - (j + 1)) (cap - (j + 1))) w) ∧ (cap ≠ j + 1 → a' = some ⟨b, o + (j + 1), none⟩) := by
  have hC : (Tryd.prog.info? 3).map (·.size) = some 1 := by kernel_rfl
  refine ⟨if cap = j + 1 then some ⟨b, o, none⟩ else some ((⟨b, o, none⟩ : Addr).add (j + 1)), fun w => ?_, fun h => by rw [if_neg h, addr_add]⟩
  have e : (j : Int) + 1 = ((j + 1 : Nat) : Int) := by omega
  rw [e]
  obtain ⟨i0, hi, hz⟩ := Option.map_eq_some_iff.1 hC
  have hb := run_sliceBound (P := Tryd.prog) w .i64 ((j + 1 : Nat) : Int) len .sliceB (by omega) (by omega)
  simp only [Instr.slice, run_underlying Tryd.underlying42, Sem.run_bind, Result.andThen_ok, Instr.sliceBounds, Sem.run_pure, Option.isSome_none, Bool.false_eq_true, if_false]
  rw [hb]
  simp [sizeOf, typeInfo, hi, hz, Result.andThen]
set_option maxRecDepth 100000 in
set_option maxHeartbeats 3200000 in
theorem extend_in (F : Fence) (hd : F.depth = none) (hf : F.fn 126) (hro : F.round = none) (l Bc sz B k N : Nat) (Kb : Nat → Prop) (hsz : sz ≤ 100) (hB0 : B ≤ Bc) (hB1 : Bc < B + k) (hn₀ : ∀ r, Kb r → r < B) (L : List Int) (J : List (Nat × List Int) → World → Prop) (hJ : AbidesK B k J)
    (hY : ∀ m pre x W1, J pre W1 → pre.length < N → B + k ≤ W1.heap.size → SetQ B k sz L x W1 → YieldAt F m Tryd.prog l #[.slice (some ⟨x.1, 0, none⟩) sz sz] W1 fun e W' => e = .returned (.bool true) ∧ J (pre ++ [x]) W' ∧ KpC Kb B k W1 W') :
    ∀ (q n : Nat) (c R : List Int) (av : Option Addr) (cap : Nat) (pre : List (Nat × List Int)) (W : World), c.length + q = sz → ChO W B Bc sz c → RdN Kb W av R → R.length ≤ cap → R.length ≤ 100 → pre.length + (comb q R).length ≤ N → J pre W → B + k ≤ W.heap.size → (∀ v ∈ c, v ∈ L) → (∀ v ∈ R, v ∈ L) →
    CallsIn F n Tryd.prog 126 #[.slice (some ⟨Bc, 0, none⟩) c.length sz, .slice av R.length cap, .int .i64 sz, .func (.yield l) #[] #[]] W fun e W' =>
      e = .returned (.bool true) ∧ J (pre ++ (comb q R).map (fun t => (Bc, c ++ t))) W' ∧ Kpn Kb W W' ∧ ChO W' B Bc sz c := by
  have hdd : ∀ k : Nat, (F.depth.isSome = true → 1 ≤ k) := fun k h => by rw [hd] at h; cases h
  intro q
  induction q with
  | zero =>
    intro n c R av cap pre W hq hO hR hRc hRl hN hj hW hcL hRL
    have hq' : c.length = sz := by omega
    have heq : ((c.length : Int) == (sz : Int)) = true := by simp; omega
    obtain ⟨fn, tmps, assign, body, hy, hR'⟩ := hY (n - 1) pre (Bc, c) W hj (by simp [comb] at hN; omega) hW ⟨hq', hB0, hB1, hcL, hO⟩
    dsimp only at hy
    rw [← hq'] at hy heq
    subst hq'
    have HO := Lib.hid hO; clear hO
    clear hq hY
    refine callsIn_of_wp Tryd.func126 rfl hf ?_ hro
    simp only [Tryd.ntmps126, List.size_toArray, List.length_cons, List.length_nil, Nat.reduceAdd, Nat.reduceSub, Array.replicate_succ, Array.replicate_zero, List.push_toArray, List.append_toArray, List.nil_append, List.cons_append]
    gi_wp2_with ((try refine ⟨hdd _, ?_⟩); refine hR'.mono ?_; clear hR'; rintro e W2 ⟨rfl, hJ2, hk2⟩)
    go_ret
    exact ⟨rfl, by simpa [comb] using hJ2, hk2.1, HO.out.kept (hk2.2 Bc hB0 hB1 HO.out.lt)⟩
  | succ q ih =>
    intro n c R av cap pre W hq hO hR hRc hRl hN hj hW hcL hRL
    have hne : ((c.length : Int) == (sz : Int)) = false := by simp; omega
    have HR := Lib.hid hR; have HRL := Lib.hid hRL; have HCL := Lib.hid hcL; have HO := Lib.hid hO
    clear hR hRL hcL hO hY
    have IH := Lib.hid ih; clear ih
    refine callsIn_of_wp Tryd.func126 rfl hf ?_ hro
    simp only [Tryd.ntmps126, List.size_toArray, List.length_cons, List.length_nil, Nat.reduceAdd, Nat.reduceSub, Array.replicate_succ, Array.replicate_zero, List.push_toArray, List.append_toArray, List.nil_append, List.cons_append]
    gi_wp2
    gi_loopw [20] (fun i wr => ∃ j : Nat, j ≤ R.length ∧ i = .int .i64 j ∧ J (pre ++ (combTo q R j).map (fun t => (Bc, c ++ t))) wr ∧ Kpn Kb W wr ∧ ChO wr B Bc sz c) (fun i _ => R.length - (intOf i).toNat)
    case atStart => exact ⟨0, by omega, rfl, by simpa [combTo] using hj, Kpn.refl _ _, HO.out⟩
    case round =>
      obtain ⟨j, hjl, rfl, rJ, rB, rO⟩ := hrel
      by_cases hlt : j < R.length
      · obtain ⟨b, o, rfl, hb, hcc⟩ : ∃ b o, av = some ⟨b, o, none⟩ ∧ (Kb b ∧ b < wr.heap.size) ∧ ∀ j (h : j < R.length), wr.cell? ⟨b, o + j, none⟩ = some (.int .i64 R[j]) := by
          rcases HR.out.kept rB with h | h
          · subst h; simp at hlt
          · exact h
        have hck := hcc j hlt
        have HX := Lib.hid (show ∃ x, R[j] = x from ⟨_, rfl⟩)
        obtain ⟨x, hx⟩ := HX.out
        rw [hx] at hck
        have HTK := Lib.hid (show combTo q R (j + 1) = combTo q R j ++ (comb q (R.drop (j + 1))).map (x :: ·) by rw [combTo_succ]; simp [List.getD_eq_getElem?_getD, List.getElem?_eq_getElem hlt, hx])
        have HXL := Lib.hid (show x ∈ L from hx ▸ HRL.out _ (List.getElem_mem hlt))
        have HNN := Lib.hid (show (pre ++ (combTo q R j).map (fun t => (Bc, c ++ t))).length + (comb q (R.drop (j + 1))).length ≤ N by
          have h1 := combTo_mono q R (show j + 1 ≤ R.length by omega)
          rw [combTo_all, combTo_succ] at h1
          simp only [List.length_append, List.length_map] at h1 ⊢
          omega)
        clear hx HX hcc
        have zr := rB.1
        have rO := Lib.hid rO; have rJ := Lib.hid rJ
        have hbl : b < wr.heap.size := hb.2
        gi_wp2
        have hwm : Tryd.prog.follows .mixedOrders = true := by kernel_rfl
        have W1 : IntKind.i64.wrap ((j : Int) + 1) = (j : Int) + 1 := IntWalk.i64_in _ (by omega)
        refine wpIn_region_any hwm ?_
        (try (change wpAnyIn _ _ _ _ _ _ _ _ _ (World.drew _)))
        refine wpAnyIn_take (i := 0) (v := ?_) hro rfl (by kernel_rfl) (by kernel_rfl) (by kernel_rfl) (fun _ _ _ h => h) ⟨Or.inl ⟨by rfl, ?_⟩, fun _ => rfl⟩ ?_
        rotate_left 1
        · ((intro w'); (go_simp <;> with_reducible rfl))
        refine wpAnyIn_take (i := 1) (v := ?_) hro rfl (by kernel_rfl) (by kernel_rfl) (by kernel_rfl) (fun _ _ _ h => h) ⟨Or.inl ⟨by rfl, ?_⟩, fun _ => rfl⟩ ?_
        rotate_left 1
        · ((intro w'); (go_simp <;> with_reducible rfl))
        refine wpAnyIn_take (i := 4) (v := ?_) hro rfl (by kernel_rfl) (by kernel_rfl) (by kernel_rfl) (fun _ _ _ h => h) ⟨Or.inl ⟨by rfl, ?_⟩, fun _ => rfl⟩ ?_
        rotate_left 1
        · ((intro w'); (go_simp <;> with_reducible rfl))
        refine wpAnyIn_take (i := 5) (v := ?_) hro rfl (by kernel_rfl) (by kernel_rfl) (by kernel_rfl) (fun _ _ _ h => h) ⟨Or.inl ⟨by rfl, ?_⟩, fun _ => rfl⟩ ?_
        rotate_left 1
        · ((intro w'); (go_simp <;> with_reducible rfl))
        refine wpAnyIn_take (i := 6) (v := ?_) hro rfl (by kernel_rfl) (by kernel_rfl) (by kernel_rfl) (fun _ _ _ h => h) ⟨Or.inl ⟨by rfl, ?_⟩, fun _ => rfl⟩ ?_
        rotate_left 1
        · ((intro w'); (go_simp <;> with_reducible rfl))
        obtain ⟨a', hsl, ha'⟩ := sliceFrom b o R.length cap j (by omega) hRc (by omega)
        refine wpAnyIn_take (i := 7) (v := .slice a' (R.length - (j + 1)) (cap - (j + 1))) hro rfl (by kernel_rfl) (by kernel_rfl) (by kernel_rfl) (fun _ _ _ h => h) ⟨Or.inl ⟨by rfl, ?_⟩, fun _ => rfl⟩ ?_
        · intro w'
          go_simp
        refine wpAnyIn_take (i := 8) (v := ?_) hro rfl (by kernel_rfl) (by kernel_rfl) (by kernel_rfl) (fun _ _ _ h => h) ⟨Or.inl ⟨by rfl, ?_⟩, fun _ => rfl⟩ ?_
        rotate_left 1
        · ((intro w'); (go_simp <;> with_reducible rfl))
        refine wpAnyIn_take (i := 9) (v := ?_) hro rfl (by kernel_rfl) (by kernel_rfl) (by kernel_rfl) (fun _ _ _ h => h) ⟨Or.inl ⟨by rfl, ?_⟩, fun _ => rfl⟩ ?_
        rotate_left 1
        · ((intro w'); (go_simp <;> with_reducible rfl))
        refine wpAnyIn_ready (rs := [2]) (by kernel_rfl) (by simp) ?_
        refine AllReadyIn.cons rfl (fun K hK => ?_) AllReadyIn.nil
        go_simp
        refine hK _ _ ?_
        clear hK K
        refine wpAnyIn_ready (rs := [3]) (by kernel_rfl) (by simp) ?_
        refine AllReadyIn.cons rfl (fun K hK => ?_) AllReadyIn.nil
        obtain ⟨i0, hi0, hz0, hz1, hz2⟩ := info_parts infoInt
        refine wpIn_append_fits _ (by kernel_rfl) (.tmp 25) (.tmp 27) 42 rfl B 3 i0 1 Tryd.underlying42 hi0 hz1 Bc c.length sz (c.map (Value.int .i64)) rfl ?_ ⟨wr.heap.size, 0, none⟩ 1 1 [.int .i64 x] rfl rfl ?_ (by simp [Value.oneCell']) (by omega) ?_
        · exact World.ownsRow.alloc rO.out _
        · exact cell_one_new wr (.int .i64 x) 3
        intro w3 hown3 hgrow3
        refine hK _ _ ?_
        clear hK K
        have J3 : J (pre ++ (combTo q R j).map (fun t => (Bc, c ++ t))) w3 :=
          hJ _ _ _ (some Bc) (hJ _ _ _ none (hJ _ _ _ none rJ.out (World.grownBy_alloc wr (.cells #[.int .i64 x] 3) none) (fun r e => by cases e)) (grown_drew _) (fun r e => by cases e)) hgrow3 (fun r e => by cases e; exact ⟨hB0, hB1⟩)
        have B3 : Kpn Kb W w3 := (rB.trans (Kpn.grown (World.grownBy_alloc wr (.cells #[.int .i64 x] 3) none) (fun r e => by cases e))).trans (Kpn.grown (row := some Bc) ⟨hgrow3.os, hgrow3.tape, hgrow3.output, hgrow3.size, hgrow3.block⟩ (fun r e h => by cases e; have := hn₀ _ h; omega))
        have z3 : wr.heap.size ≤ w3.heap.size := by have := hgrow3.size; simp at this; omega
        have R3 : RdN Kb w3 a' (R.drop (j + 1)) := by
          by_cases he : j + 1 < R.length
          · rw [ha' (by omega)]
            rcases HR.out.kept B3 with h | ⟨b', o', e, h1, h2⟩
            · subst h; simp at hlt
            · cases e
              refine .inr ⟨b, o + (j + 1), rfl, h1, fun i hi => ?_⟩
              have := h2 (j + 1 + i) (by simp at hi; omega)
              rw [Nat.add_assoc, this]; simp
          · exact .inl (List.drop_eq_nil_of_le (by omega))
        have O3 : ChO w3 B Bc sz (c ++ [x]) := by unfold ChO; simpa using hown3
        have IHc := IH.out (n - 1) (c ++ [x]) (R.drop (j + 1)) a' (cap - (j + 1)) _ w3 (by simp; omega) O3 R3 (by simp; omega) (by simp; omega) HNN.out J3 (by omega)
          (fun v hv => by rcases List.mem_append.1 hv with h | h; exact HCL.out v h; simp at h; rw [h]; exact HXL.out) (fun v hv => HRL.out v (List.mem_of_mem_drop hv))
        rw [List.length_append, List.length_drop, List.length_singleton] at IHc
        clear J3 R3 O3 hown3 hgrow3 hsl ha' hck
        refine wpAnyIn_ready (rs := [10]) (by kernel_rfl) (by simp) ?_
        refine AllReadyIn.cons rfl (fun K hK => ?_) AllReadyIn.nil
        go_simp
        gi_wp2_with ((try refine ⟨hdd _, ?_⟩); gi_at_call 126; refine IHc.mono ?_; clear IHc; rintro e w5 ⟨rfl, hJ5, hB5, hO5⟩)
        (try (refine hK _ _ ?_))
        (try clear hK K)
        refine wpAnyIn_ready (rs := [11]) (by kernel_rfl) (by simp) ?_
        refine AllReadyIn.cons rfl (fun K hK => ?_) AllReadyIn.nil
        go_simp
        refine hK _ _ ?_
        clear hK K
        refine wpAnyIn_done (by kernel_rfl) ?_ _
        gi_wp2
        go_roundw
        case rel => exact ⟨j + 1, by omega, by go_num, by rw [HTK.out, List.map_append, ← List.append_assoc]; simpa [Function.comp_def] using hJ5, B3.trans hB5, hO5.prefix⟩
        case measure => simp [intOf]; omega
      · obtain rfl : j = R.length := by omega
        have rO := Lib.hid rO
        gi_wp2
        go_ret
        exact ⟨rfl, by rw [combTo_all] at rJ; exact rJ, rB, rO.out⟩
end Go.Proofs.YtnjlifmjjihahaaDoor
