/-
  The iterator of subsets: upkeep.subsets and its function. No condition but the lengths.
-/
import Derived.Test.YtnjlifmjjihahaaDoorExt
namespace Go.Proofs.YtnjlifmjjihahaaDoor
open Go Go.RowKit Go.Shelf
attribute [local go_sem] Oper.semAt_some
theorem wpIn_make_own {F : Fence} {n : Nat} {P : Program} (w : World) {o : Oper} {a : Act} {K : Act → World → Prop} {Q : Exit → Act → World → Prop} {cc : Bool} {E : Prop} (hw : cc = true)
    (l c : Operand) (t : TypeId) (hop : o.op = Op.makeSlice t l c)
    (base : Nat) (e : TypeId) (i : TypeInfo) (z : Value) (size : Nat) (h1 : P.underlying t = some (.slice e)) (h2 : P.info? e = some i) (h3 : i.zero = some z) (h4 : i.size = size)
    (kl kc : IntKind) (m : Nat) (hl : a.eval l = .int kl 0) (hc : a.eval c = .int kc (m : Int)) (b2 : i.bytes * m ≤ 281474976710656) (b3 : m ≤ maxLen) (b4 : base ≤ w.heap.size)
    (hK : ∀ w', w'.ownsRow base e size (.slice (some ⟨w.heap.size, 0, none⟩) 0 m) 0 [] → w.grownBy w' none → K (a.put o.dst (.slice (some ⟨w.heap.size, 0, none⟩) 0 m)) w') :
    if cc = true then Oper.wpIn F n P o a w K Q else E := by
  rw [if_pos hw]
  obtain ⟨w', hrun, r1, r2⟩ := run_make_own (P := P) w base t e i z size h1 h2 h3 h4 kl kc m b2 b3 b4
  unfold Oper.wpIn
  refine ⟨?_, ?_⟩
  · simp [Oper.about, hop]
  · rw [Oper.semAt_plain F _ _ (by rw [hop]; intro c hc'; cases hc')]
    simp [execOp, hop, hl, hc, hrun, Result.andThen]
    exact hK w' r1 r2
set_option maxHeartbeats 800000 in
theorem subsets_any (a : Option Addr) (len cap : Nat) (sz : Nat) (w : World) :
    Calls Tryd.prog 120 #[.slice a len cap, .int .i64 sz] w fun e w' => e = .returned (.func (.func 125) #[] #[.pointer (some ⟨w.heap.size + 1, 0, none⟩), .pointer (some ⟨w.heap.size, 0, none⟩)]) ∧ w' = (w.alloc (.cells #[.slice a len cap] 42)).alloc (.cells #[.int .i64 sz] 3) := by
  go_enter Tryd.func120, Tryd.ntmps120
  go_wp2
  go_ret
  exact ⟨rfl, rfl⟩
set_option maxRecDepth 100000 in
set_option maxHeartbeats 6400000 in
theorem subsets1_seq (F : Fence) (hd : F.depth = none) (h1 : F.fn 125) (hf : F.fn 126) (hro : F.round = none) (n bl bs sz N : Nat) (Kb : Nat → Prop) (R : List Int) (av : Option Addr) (cap : Nat) (w : World) (hsz : sz ≤ 100)
    (hbl : bl < w.heap.size) (hbs : bs < w.heap.size) (hcl : w.cell? ⟨bl, 0, none⟩ = some (.slice av R.length cap)) (hcs : w.cell? ⟨bs, 0, none⟩ = some (.int .i64 sz)) (hn₀ : ∀ r, Kb r → r < w.heap.size) (hR : RdN Kb w av R) (hRc : R.length ≤ cap) (hRl : R.length ≤ 100) (hN : (comb sz R).length ≤ N) :
    SeqC F n Tryd.prog 125 #[.pointer (some ⟨bs, 0, none⟩), .pointer (some ⟨bl, 0, none⟩)] (fun x : Nat × List Int => #[.slice (some ⟨x.1, 0, none⟩) sz sz]) (SetQ (w.heap.size + 2) 1 sz R) Kb 1 N (fun xs => xs = (comb sz R).map (fun t => (w.heap.size + 2, t))) w := by
  intro l J W hWz hWb hJ hY h0
  have hdd : ∀ k : Nat, (F.depth.isSome = true → 1 ≤ k) := fun k h => by rw [hd] at h; cases h
  have cl := (hWb.cell (p := ⟨bl, 0, none⟩) hbl).trans hcl
  have cs := (hWb.cell (p := ⟨bs, 0, none⟩) hbs).trans hcs
  have HR := Lib.hid (hR.kept (Kpn.below hWb))
  rw [← hWz] at hY ⊢
  have hlW : bl < W.heap.size := by omega
  have hsW : bs < W.heap.size := by omega
  have hnW : ∀ r, Kb r → r < W.heap.size := fun r h => by have := hn₀ r h; omega
  have EX := Lib.hid (fun (w2 : World) (hO : ChO w2 W.heap.size W.heap.size sz []) (hR2 : RdN Kb w2 av R) (hj : J [] w2) (hz : W.heap.size + 1 ≤ w2.heap.size) =>
    extend_in F hd hf hro l W.heap.size sz W.heap.size 1 N Kb hsz (Nat.le_refl _) (by omega) hnW R J hJ hY sz (n - 1) [] R av cap [] w2 (by simp) hO hR2 hRc hRl (by simpa using hN) hj hz (fun v hv => by simp at hv) (fun v hv => hv))
  have HJ0 := Lib.hid h0; have HJ := Lib.hid hJ
  clear hcl hcs hR hY h0 hWb hJ hWz
  obtain ⟨i0, hi0, hz0, hz1, hz2⟩ := info_parts infoInt
  have hwm : Tryd.prog.follows .mixedOrders = true := by kernel_rfl
  refine callsIn_of_wp Tryd.func125 rfl h1 ?_ hro
  simp only [Tryd.ntmps125, List.size_toArray, List.length_cons, List.length_nil, Nat.reduceAdd, Nat.reduceSub, Array.replicate_succ, Array.replicate_zero, List.push_toArray, List.append_toArray, List.nil_append, List.cons_append]
  gi_wp2
  refine wpIn_region_any hwm ?_
  (try (change wpAnyIn _ _ _ _ _ _ _ _ _ (World.drew _)))
  refine wpAnyIn_take (i := 4) (v := ?_) hro rfl (by kernel_rfl) (by kernel_rfl) (by kernel_rfl) (fun _ _ _ h => h) ⟨Or.inl ⟨by rfl, ?_⟩, fun _ => rfl⟩ ?_
  rotate_left 1
  · ((intro w'); (go_simp <;> with_reducible rfl))
  refine wpAnyIn_ready (rs := [0, 2, 3]) (by kernel_rfl) (by simp) ?_
  refine AllReadyIn.cons rfl (fun K hK => ?_) ?_
  · go_simp
    refine hK _ _ ?_
    clear hK K
    refine wpAnyIn_ready (rs := [1, 2, 3]) (by kernel_rfl) (by simp) ?_
    refine AllReadyIn.cons rfl (fun K hK => ?_) ?_
    · refine wpIn_make_own _ (by kernel_rfl) (.const (.int .i64 0)) (.tmp 4) 42 rfl W.heap.size 3 i0 _ 1 Tryd.underlying42 hi0 hz0 hz1 .i64 .i64 sz rfl rfl (by rw [hz2]; omega) (by unfold maxLen; omega) (Nat.le_refl _) ?_
      intro w2 hown2 hgrow2
      refine hK _ _ ?_
      clear hK K
      rw [show (World.drew W).heap.size = W.heap.size from rfl] at hown2 ⊢
      have cl2 := (World.cell?_of_block (a := ⟨bl, 0, none⟩) (hgrow2.block bl hlW (by simp))).trans cl
      have cs2 := (World.cell?_of_block (a := ⟨bs, 0, none⟩) (hgrow2.block bs hsW (by simp))).trans cs
      have J2 := HJ.out _ _ _ none (HJ.out _ _ _ none HJ0.out (grown_drew W) (fun r e => by cases e)) hgrow2 (fun r e => by cases e)
      have B2 : Kpn Kb W w2 := Kpn.grown (row := none) ⟨hgrow2.os, hgrow2.tape, hgrow2.output, hgrow2.size, hgrow2.block⟩ (fun r e => by cases e)
      have O2 : ChO w2 W.heap.size W.heap.size sz [] := hown2
      have EX2 := EX.out w2 O2 (HR.out.kept B2) J2 (by have := O2.lt; omega)
      simp only [List.length_nil] at EX2
      clear hown2 hgrow2 J2 O2
      refine wpAnyIn_ready (rs := [2, 3]) (by kernel_rfl) (by simp) ?_
      refine AllReadyIn.cons rfl (fun K hK => ?_) ?_
      · go_simp
        refine hK _ _ ?_
        clear hK K
        refine wpAnyIn_ready (rs := [3]) (by kernel_rfl) (by simp) ?_
        refine AllReadyIn.cons rfl (fun K hK => ?_) ?_
        · go_simp
          refine hK _ _ ?_
          clear hK K
          refine wpAnyIn_ready (rs := [5]) (by kernel_rfl) (by simp) ?_
          refine AllReadyIn.cons rfl (fun K hK => ?_) ?_
          · go_simp
            gi_wp2_with ((try refine ⟨hdd _, ?_⟩); gi_at_call 126; refine EX2.mono ?_; clear EX2; rintro e w5 ⟨rfl, hJ5, hB5, hO5⟩)
            (try (refine hK _ _ ?_))
            (try clear hK K)
            refine wpAnyIn_done (by kernel_rfl) ?_ _
            gi_wp2
            go_end0
            exact ⟨⟨_, rfl⟩, _, rfl, by simpa using hJ5⟩
          exact AllReadyIn.nil
        exact AllReadyIn.nil
      refine AllReadyIn.cons rfl (fun K hK => ?_) ?_
      · go_simp
        refine hK _ _ ?_
        clear hK K
        refine wpAnyIn_ready (rs := [2]) (by kernel_rfl) (by simp) ?_
        refine AllReadyIn.cons rfl (fun K hK => ?_) ?_
        · go_simp
          refine hK _ _ ?_
          clear hK K
          refine wpAnyIn_ready (rs := [5]) (by kernel_rfl) (by simp) ?_
          refine AllReadyIn.cons rfl (fun K hK => ?_) ?_
          · go_simp
            gi_wp2_with ((try refine ⟨hdd _, ?_⟩); gi_at_call 126; refine EX2.mono ?_; clear EX2; rintro e w5 ⟨rfl, hJ5, hB5, hO5⟩)
            (try (refine hK _ _ ?_))
            (try clear hK K)
            refine wpAnyIn_done (by kernel_rfl) ?_ _
            gi_wp2
            go_end0
            exact ⟨⟨_, rfl⟩, _, rfl, by simpa using hJ5⟩
          exact AllReadyIn.nil
        exact AllReadyIn.nil
      exact AllReadyIn.nil
    refine AllReadyIn.cons rfl (fun K hK => ?_) ?_
    · go_simp
      refine hK _ _ ?_
      clear hK K
      refine wpAnyIn_ready (rs := [1, 3]) (by kernel_rfl) (by simp) ?_
      refine AllReadyIn.cons rfl (fun K hK => ?_) ?_
      · refine wpIn_make_own _ (by kernel_rfl) (.const (.int .i64 0)) (.tmp 4) 42 rfl W.heap.size 3 i0 _ 1 Tryd.underlying42 hi0 hz0 hz1 .i64 .i64 sz rfl rfl (by rw [hz2]; omega) (by unfold maxLen; omega) (Nat.le_refl _) ?_
        intro w2 hown2 hgrow2
        refine hK _ _ ?_
        clear hK K
        rw [show (World.drew W).heap.size = W.heap.size from rfl] at hown2 ⊢
        have cl2 := (World.cell?_of_block (a := ⟨bl, 0, none⟩) (hgrow2.block bl hlW (by simp))).trans cl
        have cs2 := (World.cell?_of_block (a := ⟨bs, 0, none⟩) (hgrow2.block bs hsW (by simp))).trans cs
        have J2 := HJ.out _ _ _ none (HJ.out _ _ _ none HJ0.out (grown_drew W) (fun r e => by cases e)) hgrow2 (fun r e => by cases e)
        have B2 : Kpn Kb W w2 := Kpn.grown (row := none) ⟨hgrow2.os, hgrow2.tape, hgrow2.output, hgrow2.size, hgrow2.block⟩ (fun r e => by cases e)
        have O2 : ChO w2 W.heap.size W.heap.size sz [] := hown2
        have EX2 := EX.out w2 O2 (HR.out.kept B2) J2 (by have := O2.lt; omega)
        simp only [List.length_nil] at EX2
        clear hown2 hgrow2 J2 O2
        refine wpAnyIn_ready (rs := [3]) (by kernel_rfl) (by simp) ?_
        refine AllReadyIn.cons rfl (fun K hK => ?_) ?_
        · go_simp
          refine hK _ _ ?_
          clear hK K
          refine wpAnyIn_ready (rs := [5]) (by kernel_rfl) (by simp) ?_
          refine AllReadyIn.cons rfl (fun K hK => ?_) ?_
          · go_simp
            gi_wp2_with ((try refine ⟨hdd _, ?_⟩); gi_at_call 126; refine EX2.mono ?_; clear EX2; rintro e w5 ⟨rfl, hJ5, hB5, hO5⟩)
            (try (refine hK _ _ ?_))
            (try clear hK K)
            refine wpAnyIn_done (by kernel_rfl) ?_ _
            gi_wp2
            go_end0
            exact ⟨⟨_, rfl⟩, _, rfl, by simpa using hJ5⟩
          exact AllReadyIn.nil
        exact AllReadyIn.nil
      refine AllReadyIn.cons rfl (fun K hK => ?_) ?_
      · go_simp
        refine hK _ _ ?_
        clear hK K
        refine wpAnyIn_ready (rs := [1]) (by kernel_rfl) (by simp) ?_
        refine AllReadyIn.cons rfl (fun K hK => ?_) ?_
        · refine wpIn_make_own _ (by kernel_rfl) (.const (.int .i64 0)) (.tmp 4) 42 rfl W.heap.size 3 i0 _ 1 Tryd.underlying42 hi0 hz0 hz1 .i64 .i64 sz rfl rfl (by rw [hz2]; omega) (by unfold maxLen; omega) (Nat.le_refl _) ?_
          intro w2 hown2 hgrow2
          refine hK _ _ ?_
          clear hK K
          rw [show (World.drew W).heap.size = W.heap.size from rfl] at hown2 ⊢
          have cl2 := (World.cell?_of_block (a := ⟨bl, 0, none⟩) (hgrow2.block bl hlW (by simp))).trans cl
          have cs2 := (World.cell?_of_block (a := ⟨bs, 0, none⟩) (hgrow2.block bs hsW (by simp))).trans cs
          have J2 := HJ.out _ _ _ none (HJ.out _ _ _ none HJ0.out (grown_drew W) (fun r e => by cases e)) hgrow2 (fun r e => by cases e)
          have B2 : Kpn Kb W w2 := Kpn.grown (row := none) ⟨hgrow2.os, hgrow2.tape, hgrow2.output, hgrow2.size, hgrow2.block⟩ (fun r e => by cases e)
          have O2 : ChO w2 W.heap.size W.heap.size sz [] := hown2
          have EX2 := EX.out w2 O2 (HR.out.kept B2) J2 (by have := O2.lt; omega)
          simp only [List.length_nil] at EX2
          clear hown2 hgrow2 J2 O2
          refine wpAnyIn_ready (rs := [5]) (by kernel_rfl) (by simp) ?_
          refine AllReadyIn.cons rfl (fun K hK => ?_) ?_
          · go_simp
            gi_wp2_with ((try refine ⟨hdd _, ?_⟩); gi_at_call 126; refine EX2.mono ?_; clear EX2; rintro e w5 ⟨rfl, hJ5, hB5, hO5⟩)
            (try (refine hK _ _ ?_))
            (try clear hK K)
            refine wpAnyIn_done (by kernel_rfl) ?_ _
            gi_wp2
            go_end0
            exact ⟨⟨_, rfl⟩, _, rfl, by simpa using hJ5⟩
          exact AllReadyIn.nil
        exact AllReadyIn.nil
      exact AllReadyIn.nil
    refine AllReadyIn.cons rfl (fun K hK => ?_) ?_
    · go_simp
      refine hK _ _ ?_
      clear hK K
      refine wpAnyIn_ready (rs := [1, 2]) (by kernel_rfl) (by simp) ?_
      refine AllReadyIn.cons rfl (fun K hK => ?_) ?_
      · refine wpIn_make_own _ (by kernel_rfl) (.const (.int .i64 0)) (.tmp 4) 42 rfl W.heap.size 3 i0 _ 1 Tryd.underlying42 hi0 hz0 hz1 .i64 .i64 sz rfl rfl (by rw [hz2]; omega) (by unfold maxLen; omega) (Nat.le_refl _) ?_
        intro w2 hown2 hgrow2
        refine hK _ _ ?_
        clear hK K
        rw [show (World.drew W).heap.size = W.heap.size from rfl] at hown2 ⊢
        have cl2 := (World.cell?_of_block (a := ⟨bl, 0, none⟩) (hgrow2.block bl hlW (by simp))).trans cl
        have cs2 := (World.cell?_of_block (a := ⟨bs, 0, none⟩) (hgrow2.block bs hsW (by simp))).trans cs
        have J2 := HJ.out _ _ _ none (HJ.out _ _ _ none HJ0.out (grown_drew W) (fun r e => by cases e)) hgrow2 (fun r e => by cases e)
        have B2 : Kpn Kb W w2 := Kpn.grown (row := none) ⟨hgrow2.os, hgrow2.tape, hgrow2.output, hgrow2.size, hgrow2.block⟩ (fun r e => by cases e)
        have O2 : ChO w2 W.heap.size W.heap.size sz [] := hown2
        have EX2 := EX.out w2 O2 (HR.out.kept B2) J2 (by have := O2.lt; omega)
        simp only [List.length_nil] at EX2
        clear hown2 hgrow2 J2 O2
        refine wpAnyIn_ready (rs := [2]) (by kernel_rfl) (by simp) ?_
        refine AllReadyIn.cons rfl (fun K hK => ?_) ?_
        · go_simp
          refine hK _ _ ?_
          clear hK K
          refine wpAnyIn_ready (rs := [5]) (by kernel_rfl) (by simp) ?_
          refine AllReadyIn.cons rfl (fun K hK => ?_) ?_
          · go_simp
            gi_wp2_with ((try refine ⟨hdd _, ?_⟩); gi_at_call 126; refine EX2.mono ?_; clear EX2; rintro e w5 ⟨rfl, hJ5, hB5, hO5⟩)
            (try (refine hK _ _ ?_))
            (try clear hK K)
            refine wpAnyIn_done (by kernel_rfl) ?_ _
            gi_wp2
            go_end0
            exact ⟨⟨_, rfl⟩, _, rfl, by simpa using hJ5⟩
          exact AllReadyIn.nil
        exact AllReadyIn.nil
      refine AllReadyIn.cons rfl (fun K hK => ?_) ?_
      · go_simp
        refine hK _ _ ?_
        clear hK K
        refine wpAnyIn_ready (rs := [1]) (by kernel_rfl) (by simp) ?_
        refine AllReadyIn.cons rfl (fun K hK => ?_) ?_
        · refine wpIn_make_own _ (by kernel_rfl) (.const (.int .i64 0)) (.tmp 4) 42 rfl W.heap.size 3 i0 _ 1 Tryd.underlying42 hi0 hz0 hz1 .i64 .i64 sz rfl rfl (by rw [hz2]; omega) (by unfold maxLen; omega) (Nat.le_refl _) ?_
          intro w2 hown2 hgrow2
          refine hK _ _ ?_
          clear hK K
          rw [show (World.drew W).heap.size = W.heap.size from rfl] at hown2 ⊢
          have cl2 := (World.cell?_of_block (a := ⟨bl, 0, none⟩) (hgrow2.block bl hlW (by simp))).trans cl
          have cs2 := (World.cell?_of_block (a := ⟨bs, 0, none⟩) (hgrow2.block bs hsW (by simp))).trans cs
          have J2 := HJ.out _ _ _ none (HJ.out _ _ _ none HJ0.out (grown_drew W) (fun r e => by cases e)) hgrow2 (fun r e => by cases e)
          have B2 : Kpn Kb W w2 := Kpn.grown (row := none) ⟨hgrow2.os, hgrow2.tape, hgrow2.output, hgrow2.size, hgrow2.block⟩ (fun r e => by cases e)
          have O2 : ChO w2 W.heap.size W.heap.size sz [] := hown2
          have EX2 := EX.out w2 O2 (HR.out.kept B2) J2 (by have := O2.lt; omega)
          simp only [List.length_nil] at EX2
          clear hown2 hgrow2 J2 O2
          refine wpAnyIn_ready (rs := [5]) (by kernel_rfl) (by simp) ?_
          refine AllReadyIn.cons rfl (fun K hK => ?_) ?_
          · go_simp
            gi_wp2_with ((try refine ⟨hdd _, ?_⟩); gi_at_call 126; refine EX2.mono ?_; clear EX2; rintro e w5 ⟨rfl, hJ5, hB5, hO5⟩)
            (try (refine hK _ _ ?_))
            (try clear hK K)
            refine wpAnyIn_done (by kernel_rfl) ?_ _
            gi_wp2
            go_end0
            exact ⟨⟨_, rfl⟩, _, rfl, by simpa using hJ5⟩
          exact AllReadyIn.nil
        exact AllReadyIn.nil
      exact AllReadyIn.nil
    exact AllReadyIn.nil
  refine AllReadyIn.cons rfl (fun K hK => ?_) ?_
  · go_simp
    refine hK _ _ ?_
    clear hK K
    refine wpAnyIn_ready (rs := [0, 3]) (by kernel_rfl) (by simp) ?_
    refine AllReadyIn.cons rfl (fun K hK => ?_) ?_
    · go_simp
      refine hK _ _ ?_
      clear hK K
      refine wpAnyIn_ready (rs := [1, 3]) (by kernel_rfl) (by simp) ?_
      refine AllReadyIn.cons rfl (fun K hK => ?_) ?_
      · refine wpIn_make_own _ (by kernel_rfl) (.const (.int .i64 0)) (.tmp 4) 42 rfl W.heap.size 3 i0 _ 1 Tryd.underlying42 hi0 hz0 hz1 .i64 .i64 sz rfl rfl (by rw [hz2]; omega) (by unfold maxLen; omega) (Nat.le_refl _) ?_
        intro w2 hown2 hgrow2
        refine hK _ _ ?_
        clear hK K
        rw [show (World.drew W).heap.size = W.heap.size from rfl] at hown2 ⊢
        have cl2 := (World.cell?_of_block (a := ⟨bl, 0, none⟩) (hgrow2.block bl hlW (by simp))).trans cl
        have cs2 := (World.cell?_of_block (a := ⟨bs, 0, none⟩) (hgrow2.block bs hsW (by simp))).trans cs
        have J2 := HJ.out _ _ _ none (HJ.out _ _ _ none HJ0.out (grown_drew W) (fun r e => by cases e)) hgrow2 (fun r e => by cases e)
        have B2 : Kpn Kb W w2 := Kpn.grown (row := none) ⟨hgrow2.os, hgrow2.tape, hgrow2.output, hgrow2.size, hgrow2.block⟩ (fun r e => by cases e)
        have O2 : ChO w2 W.heap.size W.heap.size sz [] := hown2
        have EX2 := EX.out w2 O2 (HR.out.kept B2) J2 (by have := O2.lt; omega)
        simp only [List.length_nil] at EX2
        clear hown2 hgrow2 J2 O2
        refine wpAnyIn_ready (rs := [3]) (by kernel_rfl) (by simp) ?_
        refine AllReadyIn.cons rfl (fun K hK => ?_) ?_
        · go_simp
          refine hK _ _ ?_
          clear hK K
          refine wpAnyIn_ready (rs := [5]) (by kernel_rfl) (by simp) ?_
          refine AllReadyIn.cons rfl (fun K hK => ?_) ?_
          · go_simp
            gi_wp2_with ((try refine ⟨hdd _, ?_⟩); gi_at_call 126; refine EX2.mono ?_; clear EX2; rintro e w5 ⟨rfl, hJ5, hB5, hO5⟩)
            (try (refine hK _ _ ?_))
            (try clear hK K)
            refine wpAnyIn_done (by kernel_rfl) ?_ _
            gi_wp2
            go_end0
            exact ⟨⟨_, rfl⟩, _, rfl, by simpa using hJ5⟩
          exact AllReadyIn.nil
        exact AllReadyIn.nil
      refine AllReadyIn.cons rfl (fun K hK => ?_) ?_
      · go_simp
        refine hK _ _ ?_
        clear hK K
        refine wpAnyIn_ready (rs := [1]) (by kernel_rfl) (by simp) ?_
        refine AllReadyIn.cons rfl (fun K hK => ?_) ?_
        · refine wpIn_make_own _ (by kernel_rfl) (.const (.int .i64 0)) (.tmp 4) 42 rfl W.heap.size 3 i0 _ 1 Tryd.underlying42 hi0 hz0 hz1 .i64 .i64 sz rfl rfl (by rw [hz2]; omega) (by unfold maxLen; omega) (Nat.le_refl _) ?_
          intro w2 hown2 hgrow2
          refine hK _ _ ?_
          clear hK K
          rw [show (World.drew W).heap.size = W.heap.size from rfl] at hown2 ⊢
          have cl2 := (World.cell?_of_block (a := ⟨bl, 0, none⟩) (hgrow2.block bl hlW (by simp))).trans cl
          have cs2 := (World.cell?_of_block (a := ⟨bs, 0, none⟩) (hgrow2.block bs hsW (by simp))).trans cs
          have J2 := HJ.out _ _ _ none (HJ.out _ _ _ none HJ0.out (grown_drew W) (fun r e => by cases e)) hgrow2 (fun r e => by cases e)
          have B2 : Kpn Kb W w2 := Kpn.grown (row := none) ⟨hgrow2.os, hgrow2.tape, hgrow2.output, hgrow2.size, hgrow2.block⟩ (fun r e => by cases e)
          have O2 : ChO w2 W.heap.size W.heap.size sz [] := hown2
          have EX2 := EX.out w2 O2 (HR.out.kept B2) J2 (by have := O2.lt; omega)
          simp only [List.length_nil] at EX2
          clear hown2 hgrow2 J2 O2
          refine wpAnyIn_ready (rs := [5]) (by kernel_rfl) (by simp) ?_
          refine AllReadyIn.cons rfl (fun K hK => ?_) ?_
          · go_simp
            gi_wp2_with ((try refine ⟨hdd _, ?_⟩); gi_at_call 126; refine EX2.mono ?_; clear EX2; rintro e w5 ⟨rfl, hJ5, hB5, hO5⟩)
            (try (refine hK _ _ ?_))
            (try clear hK K)
            refine wpAnyIn_done (by kernel_rfl) ?_ _
            gi_wp2
            go_end0
            exact ⟨⟨_, rfl⟩, _, rfl, by simpa using hJ5⟩
          exact AllReadyIn.nil
        exact AllReadyIn.nil
      exact AllReadyIn.nil
    refine AllReadyIn.cons rfl (fun K hK => ?_) ?_
    · go_simp
      refine hK _ _ ?_
      clear hK K
      refine wpAnyIn_ready (rs := [0]) (by kernel_rfl) (by simp) ?_
      refine AllReadyIn.cons rfl (fun K hK => ?_) ?_
      · go_simp
        refine hK _ _ ?_
        clear hK K
        refine wpAnyIn_ready (rs := [1]) (by kernel_rfl) (by simp) ?_
        refine AllReadyIn.cons rfl (fun K hK => ?_) ?_
        · refine wpIn_make_own _ (by kernel_rfl) (.const (.int .i64 0)) (.tmp 4) 42 rfl W.heap.size 3 i0 _ 1 Tryd.underlying42 hi0 hz0 hz1 .i64 .i64 sz rfl rfl (by rw [hz2]; omega) (by unfold maxLen; omega) (Nat.le_refl _) ?_
          intro w2 hown2 hgrow2
          refine hK _ _ ?_
          clear hK K
          rw [show (World.drew W).heap.size = W.heap.size from rfl] at hown2 ⊢
          have cl2 := (World.cell?_of_block (a := ⟨bl, 0, none⟩) (hgrow2.block bl hlW (by simp))).trans cl
          have cs2 := (World.cell?_of_block (a := ⟨bs, 0, none⟩) (hgrow2.block bs hsW (by simp))).trans cs
          have J2 := HJ.out _ _ _ none (HJ.out _ _ _ none HJ0.out (grown_drew W) (fun r e => by cases e)) hgrow2 (fun r e => by cases e)
          have B2 : Kpn Kb W w2 := Kpn.grown (row := none) ⟨hgrow2.os, hgrow2.tape, hgrow2.output, hgrow2.size, hgrow2.block⟩ (fun r e => by cases e)
          have O2 : ChO w2 W.heap.size W.heap.size sz [] := hown2
          have EX2 := EX.out w2 O2 (HR.out.kept B2) J2 (by have := O2.lt; omega)
          simp only [List.length_nil] at EX2
          clear hown2 hgrow2 J2 O2
          refine wpAnyIn_ready (rs := [5]) (by kernel_rfl) (by simp) ?_
          refine AllReadyIn.cons rfl (fun K hK => ?_) ?_
          · go_simp
            gi_wp2_with ((try refine ⟨hdd _, ?_⟩); gi_at_call 126; refine EX2.mono ?_; clear EX2; rintro e w5 ⟨rfl, hJ5, hB5, hO5⟩)
            (try (refine hK _ _ ?_))
            (try clear hK K)
            refine wpAnyIn_done (by kernel_rfl) ?_ _
            gi_wp2
            go_end0
            exact ⟨⟨_, rfl⟩, _, rfl, by simpa using hJ5⟩
          exact AllReadyIn.nil
        exact AllReadyIn.nil
      exact AllReadyIn.nil
    exact AllReadyIn.nil
  refine AllReadyIn.cons rfl (fun K hK => ?_) ?_
  · go_simp
    refine hK _ _ ?_
    clear hK K
    refine wpAnyIn_ready (rs := [0, 2]) (by kernel_rfl) (by simp) ?_
    refine AllReadyIn.cons rfl (fun K hK => ?_) ?_
    · go_simp
      refine hK _ _ ?_
      clear hK K
      refine wpAnyIn_ready (rs := [1, 2]) (by kernel_rfl) (by simp) ?_
      refine AllReadyIn.cons rfl (fun K hK => ?_) ?_
      · refine wpIn_make_own _ (by kernel_rfl) (.const (.int .i64 0)) (.tmp 4) 42 rfl W.heap.size 3 i0 _ 1 Tryd.underlying42 hi0 hz0 hz1 .i64 .i64 sz rfl rfl (by rw [hz2]; omega) (by unfold maxLen; omega) (Nat.le_refl _) ?_
        intro w2 hown2 hgrow2
        refine hK _ _ ?_
        clear hK K
        rw [show (World.drew W).heap.size = W.heap.size from rfl] at hown2 ⊢
        have cl2 := (World.cell?_of_block (a := ⟨bl, 0, none⟩) (hgrow2.block bl hlW (by simp))).trans cl
        have cs2 := (World.cell?_of_block (a := ⟨bs, 0, none⟩) (hgrow2.block bs hsW (by simp))).trans cs
        have J2 := HJ.out _ _ _ none (HJ.out _ _ _ none HJ0.out (grown_drew W) (fun r e => by cases e)) hgrow2 (fun r e => by cases e)
        have B2 : Kpn Kb W w2 := Kpn.grown (row := none) ⟨hgrow2.os, hgrow2.tape, hgrow2.output, hgrow2.size, hgrow2.block⟩ (fun r e => by cases e)
        have O2 : ChO w2 W.heap.size W.heap.size sz [] := hown2
        have EX2 := EX.out w2 O2 (HR.out.kept B2) J2 (by have := O2.lt; omega)
        simp only [List.length_nil] at EX2
        clear hown2 hgrow2 J2 O2
        refine wpAnyIn_ready (rs := [2]) (by kernel_rfl) (by simp) ?_
        refine AllReadyIn.cons rfl (fun K hK => ?_) ?_
        · go_simp
          refine hK _ _ ?_
          clear hK K
          refine wpAnyIn_ready (rs := [5]) (by kernel_rfl) (by simp) ?_
          refine AllReadyIn.cons rfl (fun K hK => ?_) ?_
          · go_simp
            gi_wp2_with ((try refine ⟨hdd _, ?_⟩); gi_at_call 126; refine EX2.mono ?_; clear EX2; rintro e w5 ⟨rfl, hJ5, hB5, hO5⟩)
            (try (refine hK _ _ ?_))
            (try clear hK K)
            refine wpAnyIn_done (by kernel_rfl) ?_ _
            gi_wp2
            go_end0
            exact ⟨⟨_, rfl⟩, _, rfl, by simpa using hJ5⟩
          exact AllReadyIn.nil
        exact AllReadyIn.nil
      refine AllReadyIn.cons rfl (fun K hK => ?_) ?_
      · go_simp
        refine hK _ _ ?_
        clear hK K
        refine wpAnyIn_ready (rs := [1]) (by kernel_rfl) (by simp) ?_
        refine AllReadyIn.cons rfl (fun K hK => ?_) ?_
        · refine wpIn_make_own _ (by kernel_rfl) (.const (.int .i64 0)) (.tmp 4) 42 rfl W.heap.size 3 i0 _ 1 Tryd.underlying42 hi0 hz0 hz1 .i64 .i64 sz rfl rfl (by rw [hz2]; omega) (by unfold maxLen; omega) (Nat.le_refl _) ?_
          intro w2 hown2 hgrow2
          refine hK _ _ ?_
          clear hK K
          rw [show (World.drew W).heap.size = W.heap.size from rfl] at hown2 ⊢
          have cl2 := (World.cell?_of_block (a := ⟨bl, 0, none⟩) (hgrow2.block bl hlW (by simp))).trans cl
          have cs2 := (World.cell?_of_block (a := ⟨bs, 0, none⟩) (hgrow2.block bs hsW (by simp))).trans cs
          have J2 := HJ.out _ _ _ none (HJ.out _ _ _ none HJ0.out (grown_drew W) (fun r e => by cases e)) hgrow2 (fun r e => by cases e)
          have B2 : Kpn Kb W w2 := Kpn.grown (row := none) ⟨hgrow2.os, hgrow2.tape, hgrow2.output, hgrow2.size, hgrow2.block⟩ (fun r e => by cases e)
          have O2 : ChO w2 W.heap.size W.heap.size sz [] := hown2
          have EX2 := EX.out w2 O2 (HR.out.kept B2) J2 (by have := O2.lt; omega)
          simp only [List.length_nil] at EX2
          clear hown2 hgrow2 J2 O2
          refine wpAnyIn_ready (rs := [5]) (by kernel_rfl) (by simp) ?_
          refine AllReadyIn.cons rfl (fun K hK => ?_) ?_
          · go_simp
            gi_wp2_with ((try refine ⟨hdd _, ?_⟩); gi_at_call 126; refine EX2.mono ?_; clear EX2; rintro e w5 ⟨rfl, hJ5, hB5, hO5⟩)
            (try (refine hK _ _ ?_))
            (try clear hK K)
            refine wpAnyIn_done (by kernel_rfl) ?_ _
            gi_wp2
            go_end0
            exact ⟨⟨_, rfl⟩, _, rfl, by simpa using hJ5⟩
          exact AllReadyIn.nil
        exact AllReadyIn.nil
      exact AllReadyIn.nil
    refine AllReadyIn.cons rfl (fun K hK => ?_) ?_
    · go_simp
      refine hK _ _ ?_
      clear hK K
      refine wpAnyIn_ready (rs := [0]) (by kernel_rfl) (by simp) ?_
      refine AllReadyIn.cons rfl (fun K hK => ?_) ?_
      · go_simp
        refine hK _ _ ?_
        clear hK K
        refine wpAnyIn_ready (rs := [1]) (by kernel_rfl) (by simp) ?_
        refine AllReadyIn.cons rfl (fun K hK => ?_) ?_
        · refine wpIn_make_own _ (by kernel_rfl) (.const (.int .i64 0)) (.tmp 4) 42 rfl W.heap.size 3 i0 _ 1 Tryd.underlying42 hi0 hz0 hz1 .i64 .i64 sz rfl rfl (by rw [hz2]; omega) (by unfold maxLen; omega) (Nat.le_refl _) ?_
          intro w2 hown2 hgrow2
          refine hK _ _ ?_
          clear hK K
          rw [show (World.drew W).heap.size = W.heap.size from rfl] at hown2 ⊢
          have cl2 := (World.cell?_of_block (a := ⟨bl, 0, none⟩) (hgrow2.block bl hlW (by simp))).trans cl
          have cs2 := (World.cell?_of_block (a := ⟨bs, 0, none⟩) (hgrow2.block bs hsW (by simp))).trans cs
          have J2 := HJ.out _ _ _ none (HJ.out _ _ _ none HJ0.out (grown_drew W) (fun r e => by cases e)) hgrow2 (fun r e => by cases e)
          have B2 : Kpn Kb W w2 := Kpn.grown (row := none) ⟨hgrow2.os, hgrow2.tape, hgrow2.output, hgrow2.size, hgrow2.block⟩ (fun r e => by cases e)
          have O2 : ChO w2 W.heap.size W.heap.size sz [] := hown2
          have EX2 := EX.out w2 O2 (HR.out.kept B2) J2 (by have := O2.lt; omega)
          simp only [List.length_nil] at EX2
          clear hown2 hgrow2 J2 O2
          refine wpAnyIn_ready (rs := [5]) (by kernel_rfl) (by simp) ?_
          refine AllReadyIn.cons rfl (fun K hK => ?_) ?_
          · go_simp
            gi_wp2_with ((try refine ⟨hdd _, ?_⟩); gi_at_call 126; refine EX2.mono ?_; clear EX2; rintro e w5 ⟨rfl, hJ5, hB5, hO5⟩)
            (try (refine hK _ _ ?_))
            (try clear hK K)
            refine wpAnyIn_done (by kernel_rfl) ?_ _
            gi_wp2
            go_end0
            exact ⟨⟨_, rfl⟩, _, rfl, by simpa using hJ5⟩
          exact AllReadyIn.nil
        exact AllReadyIn.nil
      exact AllReadyIn.nil
    exact AllReadyIn.nil
  exact AllReadyIn.nil
end Go.Proofs.YtnjlifmjjihahaaDoor
