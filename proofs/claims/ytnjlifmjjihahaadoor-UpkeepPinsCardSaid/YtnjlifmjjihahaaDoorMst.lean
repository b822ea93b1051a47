/-
  The moisture of a day: upkeep.Moisture. No condition but the length.
-/
import Derived.Test.YtnjlifmjjihahaaDoorMoi
namespace Go.Proofs.YtnjlifmjjihahaaDoor
open Go Go.RowKit Go.Shelf
attribute [local go_sem] Oper.semAt_some
theorem clF_mem : ∀ (l : List (Int × Int)) (p : Int), clF p l = 0 → ∀ x ∈ l, rdE x.1 x.2 = 0
  | [], _, _, x, hx => by simp at hx
  | y :: l, p, h, x, hx => by
    unfold clF at h
    by_cases h1 : rdE y.1 y.2 ≠ 0
    · rw [if_pos h1] at h; exact absurd h h1
    · rw [if_neg h1] at h
      by_cases h2 : y.1 ≤ p
      · rw [if_pos h2] at h; omega
      · rw [if_neg h2] at h
        rcases List.mem_cons.1 hx with rfl | hx
        · exact Decidable.not_not.1 h1
        · exact clF_mem l _ h x hx
theorem dnL_mem {l : List (Int × Int)} {x : Int × Int × Int} (h : x ∈ dnL l l.length) : x.2 ∈ l := by
  unfold dnL at h
  obtain ⟨j, hj, rfl⟩ := List.mem_map.1 h
  have hj := List.mem_range.1 hj
  show l.getD (l.length - 1 - j) (0, 0) ∈ l
  rw [List.getD_eq_getElem?_getD, List.getElem?_eq_getElem (by omega)]
  exact List.getElem_mem _
theorem huV_mem {l : List (Int × Int)} (h : 0 < l.length) (d : Int) : ∃ x ∈ l, huV l d = x.2 := by
  unfold huV
  cases hf : (dnL l l.length).find? (fun x => decide (x.2.1 ≤ d)) with
  | some x => exact ⟨x.2, dnL_mem (List.mem_of_find?_eq_some hf), rfl⟩
  | none =>
    refine ⟨l[0], List.getElem_mem _, ?_⟩
    simp [List.getD_eq_getElem?_getD, List.getElem?_eq_getElem h]
theorem clE_ok {l : List (Int × Int)} (h : clE l = 0) : 0 < l.length ∧ l.length ≤ 200 ∧ ∀ d, 0 ≤ huV l d ∧ huV l d ≤ 1000 := by
  unfold clE at h
  by_cases h1 : l.length = 0
  · rw [if_pos h1] at h; omega
  · rw [if_neg h1] at h
    by_cases h2 : 200 < l.length
    · rw [if_pos h2] at h; omega
    · rw [if_neg h2] at h
      refine ⟨by omega, by omega, fun d => ?_⟩
      obtain ⟨x, hx, e⟩ := huV_mem (l := l) (by omega) d
      rw [e]
      exact (rdE_ok (clF_mem l _ h x hx)).2
/-- the error of the arguments, and the answer -/
def moE (s m r t : Int) (l : List (Int × Int)) (last : Int) : Int := orV [drE s m r t, clE l, rgE last 0 4000]
def moV (s m r t : Int) (l : List (Int × Int)) (last : Int) : Int × Int := if moE s m r t l last = 0 then (moF s m l last.toNat, 0) else (0, moE s m r t l last)
theorem orV3 {a b c : Int} (h : orV [a, b, c] = 0) : a = 0 ∧ b = 0 ∧ c = 0 := by
  unfold orV at h
  by_cases ha : a = 0 <;> by_cases hb : b = 0 <;> by_cases hc : c = 0 <;> simp [orV, ha, hb, hc] at h ⊢
set_option maxHeartbeats 800000 in
theorem moistures_any (s m r t last : Int) (a : Option Addr) (len cap : Nat) (w : World) :
    Calls Tryd.prog 85 #[.agg #[.int .i64 s, .int .i64 m, .int .i64 r, .int .i64 t], .slice a len cap, .int .i64 last] w fun e w' =>
      e = .returned (.func (.func 112) #[] #[.pointer (some ⟨w.heap.size, 0, none⟩), .pointer (some ⟨w.heap.size + 1 + 1, 0, none⟩), .pointer (some ⟨w.heap.size + 1, 0, none⟩)])
      ∧ w' = ((w.alloc (.cells #[.int .i64 s, .int .i64 m, .int .i64 r, .int .i64 t] 63)).alloc (.cells #[.slice a len cap] 50)).alloc (.cells #[.int .i64 last] 3) := by
  go_enter Tryd.func85, Tryd.ntmps85
  go_wp2_with fail
  go_ret
  exact ⟨rfl, rfl⟩
/-- the newest moisture lies in block X -/
def MoI (w : World) (X : Nat) (pre : List (Int × Int)) (W : World) : Prop :=
  (∃ v, Box W X #[.int .i64 v] 3 ∧ ∀ y, pre.getLast? = some y → v = y.2) ∧ Below w.heap.size w W
set_option maxRecDepth 100000 in
set_option maxHeartbeats 3200000 in
theorem moisture_any (s m r t : Int) (l : List (Int × Int)) (a : Option Addr) (cap : Nat) (last : Int) (w : World) (hlen : l.length ≤ 1000) (hs : ClAt w a l) :
    Calls Tryd.prog 39 #[.agg #[.int .i64 s, .int .i64 m, .int .i64 r, .int .i64 t], .slice a l.length cap, .int .i64 last] w fun e w' => e = .returned (.tuple #[.int .i64 (moV s m r t l last).1, .int .i64 (moV s m r t l last).2]) ∧ Below w.heap.size w w' := by
  refine (callsIn_wide (n := 6)).1 ?_
  have HC := Lib.hid hs; clear hs
  have HE := Lib.hid (show ∃ x, moE s m r t l last = x from ⟨_, rfl⟩)
  obtain ⟨e0, he0⟩ := HE.out
  have CO := Lib.hid (fun v b (h : RowAt v b [drE s m r t, clE l, rgE last 0 4000]) => (show Calls Tryd.prog 70 #[.slice (some ⟨b, 0, none⟩) 3 3] v fun e w' => e = .returned (.int .i64 e0) ∧ w' = v from by
    have h := or_any b 3 [drE s m r t, clE l, rgE last 0 4000] v (by simp) h
    rw [show orV [drE s m r t, clE l, rgE last 0 4000] = e0 from he0] at h
    exact h))
  have CC := Lib.hid (fun v (hv : ClAt v a l) => checkClimate_any l a cap v hlen hv)
  have H0 := Lib.hid he0; clear he0 HE
  have D0 := Lib.hid (Box.new w #[.int .i64 s, .int .i64 m, .int .i64 r, .int .i64 t] 63 (n := w.heap.size) rfl)
  obtain ⟨d0, d1, d2, d3, df0, df1, df2, df3⟩ := D0.out.four
  refine callsIn_of_wp_marks Tryd.func39 rfl trivial ?_ rfl
  simp only [Tryd.ntmps39, List.size_toArray, List.length_cons, List.length_nil, Nat.reduceAdd, Nat.reduceSub, Array.replicate_succ, Array.replicate_zero, List.push_toArray, List.append_toArray, List.nil_append, List.cons_append]
  gi_wp2_with ((try refine ⟨trivial, ?_⟩); gi_at_call 43)
  clear d0 d1 d2 d3 df0 df1 df2 df3
  have B0 : Below w.heap.size w (w.alloc (.cells #[.int .i64 s, .int .i64 m, .int .i64 r, .int .i64 t] 63)) := by (repeat' (first | (with_reducible exact Below.refl _ _) | (with_reducible assumption) | (with_reducible refine Below.drew ?_) | (with_reducible refine below_drewN ?_ _) | (with_reducible refine Below.setCell ?_ ?_ _) | (with_reducible refine Below.alloc ?_ ?_ _) | go_size | omega))
  have C0 := Lib.hid (HC.out.keep B0)
  have zu : (w.alloc (.cells #[.int .i64 s, .int .i64 m, .int .i64 r, .int .i64 t] 63)).heap.size = w.heap.size + 1 := by simp
  generalize (w.alloc (.cells #[.int .i64 s, .int .i64 m, .int .i64 r, .int .i64 t] 63)) = u at *
  refine (callsIn_wide.2 (checkDrift_any s m r t u)).mono ?_
  rintro e w1 ⟨rfl, h1⟩
  have C1 := Lib.hid (C0.out.keep h1)
  have D1 := Lib.hid (D0.out.keep h1)
  have B1 : Below w.heap.size w w1 := B0.trans (h1.mono (by omega))
  have z1 := h1.size
  have zz1 : w.heap.size + 1 ≤ w1.heap.size := by omega
  clear D0 C0 h1 B0 z1 zu
  gi_wp2_with ((try refine ⟨trivial, ?_⟩); gi_at_call 33; refine (callsIn_wide.2 (CC.out w1 C1.out)).mono ?_)
  rintro e w2 ⟨rfl, h2⟩
  have C2 := Lib.hid (C1.out.keep h2)
  have D2 := Lib.hid (D1.out.keep h2)
  have B2 : Below w.heap.size w w2 := B1.trans (h2.mono (by omega))
  have z2 := h2.size
  have zz2 : w.heap.size + 1 ≤ w2.heap.size := by omega
  clear C1 D1 h2 B1 z2 zz1 CC
  gi_wp2_with ((try refine ⟨trivial, ?_⟩); first
    | (gi_at_call 71; refine (callsIn_wide.2 (rangeError_any _ _ _ _)).mono ?_; rintro e w' ⟨rfl, hw'⟩; have hw' := hw'.symm; subst hw')
    | (gi_at_call 70; refine (callsIn_wide.2 (CO.out (w2.alloc (.cells #[.int .i64 (drE s m r t), .int .i64 (clE l), .int .i64 (rgE last 0 4000)] 23)) w2.heap.size (RowAt.of_box (Box.new w2 _ 23 (n := w2.heap.size) rfl)))).mono ?_))
  rintro e w3 ⟨rfl, hw3⟩
  have B3 : Below w.heap.size w w3 := by rw [hw3]; (repeat' (first | (with_reducible exact Below.refl _ _) | (with_reducible assumption) | (with_reducible refine Below.drew ?_) | (with_reducible refine below_drewN ?_ _) | (with_reducible refine Below.setCell ?_ ?_ _) | (with_reducible refine Below.alloc ?_ ?_ _) | go_size | omega))
  have D3 : Box w3 w.heap.size #[.int .i64 s, .int .i64 m, .int .i64 r, .int .i64 t] 63 := by rw [hw3]; exact D2.out.alloc _
  have C3 := Lib.hid (show ClAt w3 a l by rw [hw3]; exact C2.out.keep (by (repeat' (first | (with_reducible exact Below.refl _ _) | (with_reducible assumption) | (with_reducible refine Below.drew ?_) | (with_reducible refine below_drewN ?_ _) | (with_reducible refine Below.setCell ?_ ?_ _) | (with_reducible refine Below.alloc ?_ ?_ _) | go_size | omega))))
  have zz3 : w.heap.size + 1 + 1 ≤ w3.heap.size := by rw [hw3]; simp; omega
  clear hw3 C2 D2 B2 zz2 CO
  by_cases hz : e0 = 0
  · subst hz
    have HV := Lib.hid (show moV s m r t l last = (moF s m l last.toNat, 0) by unfold moV; rw [if_pos H0.out])
    obtain ⟨hd, hcl, hla⟩ := orV3 H0.out
    obtain ⟨hs', hm', -, -⟩ := drE_ok hd
    obtain ⟨hl0, -, hH⟩ := clE_ok hcl
    have hla2 : 0 ≤ last ∧ last ≤ 4000 := by rcases rgE_cas last 0 4000 with ⟨_, h⟩ | h <;> omega
    clear hd hcl hla H0
    have D3h := Lib.hid D3
    obtain ⟨d0, d1, d2, d3, df0, df1, df2, df3⟩ := D3.four
    have ldd : w.heap.size < w3.heap.size := by omega
    clear D3
    have D4 := Lib.hid (D3h.out.alloc (.cells #[.int .i64 0] 3))
    gi_wp2_with ((try refine ⟨trivial, ?_⟩); gi_at_call 85; refine (callsIn_wide.2 (moistures_any s m r t last a l.length cap _)).mono ?_; rintro e w' ⟨rfl, rfl⟩)
    clear D4 d0 d1 d2 d3 df0 df1 df2 df3
    obtain ⟨nl, rfl⟩ := Int.eq_ofNat_of_zero_le hla2.1
    have D9 := Lib.hid ((((Box.new w3 #[.int .i64 0] 3 (n := w3.heap.size) rfl).alloc (.cells #[.int .i64 s, .int .i64 m, .int .i64 r, .int .i64 t] 63)).alloc (.cells #[.slice a l.length cap] 50)).alloc (.cells #[.int .i64 nl] 3))
    have Dd := Lib.hid (((Box.new (w3.alloc (.cells #[.int .i64 0] 3)) #[.int .i64 s, .int .i64 m, .int .i64 r, .int .i64 t] 63 (n := w3.heap.size + 1) (by simp)).alloc (.cells #[.slice a l.length cap] 50)).alloc (.cells #[.int .i64 nl] 3))
    have Dl := Lib.hid ((Box.new ((w3.alloc (.cells #[.int .i64 0] 3)).alloc (.cells #[.int .i64 s, .int .i64 m, .int .i64 r, .int .i64 t] 63)) #[.slice a l.length cap] 50 (n := w3.heap.size + 1 + 1) (by simp)).alloc (.cells #[.int .i64 nl] 3))
    have Dt := Lib.hid (Box.new (((w3.alloc (.cells #[.int .i64 0] 3)).alloc (.cells #[.int .i64 s, .int .i64 m, .int .i64 r, .int .i64 t] 63)).alloc (.cells #[.slice a l.length cap] 50)) #[.int .i64 nl] 3 (n := w3.heap.size + 1 + 1 + 1) (by simp))
    have B4 : Below w3.heap.size w3 ((((w3.alloc (.cells #[.int .i64 0] 3)).alloc (.cells #[.int .i64 s, .int .i64 m, .int .i64 r, .int .i64 t] 63)).alloc (.cells #[.slice a l.length cap] 50)).alloc (.cells #[.int .i64 nl] 3)) := by (repeat' (first | (with_reducible exact Below.refl _ _) | (with_reducible assumption) | (with_reducible refine Below.drew ?_) | (with_reducible refine below_drewN ?_ _) | (with_reducible refine Below.setCell ?_ ?_ _) | (with_reducible refine Below.alloc ?_ ?_ _) | go_size | omega))
    have zu : ((((w3.alloc (.cells #[.int .i64 0] 3)).alloc (.cells #[.int .i64 s, .int .i64 m, .int .i64 r, .int .i64 t] 63)).alloc (.cells #[.slice a l.length cap] 50)).alloc (.cells #[.int .i64 nl] 3)).heap.size = w3.heap.size + 1 + 1 + 1 + 1 := by simp
    generalize ((((w3.alloc (.cells #[.int .i64 0] 3)).alloc (.cells #[.int .i64 s, .int .i64 m, .int .i64 r, .int .i64 t] 63)).alloc (.cells #[.slice a l.length cap] 50)).alloc (.cells #[.int .i64 nl] 3)) = u at *
    have B5 : Below w.heap.size w u := B3.trans (B4.mono (by omega))
    have C5 := Lib.hid (C3.out.keep B4)
    have hcb : ∀ b, (∃ o, a = some ⟨b, o, none⟩) → b < u.heap.size ∧ b ≠ w3.heap.size := by
      rintro b ⟨o, rfl⟩
      rcases HC.out with h | ⟨b', o', e, hb, -⟩
      · subst h; simp at hl0
      · cases e; omega
    refine wpIn_rangeFunc_ownH rfl (by omega) (gf := 112) (lb := #[.pointer (some ⟨w3.heap.size + 1, 0, none⟩), .pointer (some ⟨w3.heap.size + 1 + 1 + 1, 0, none⟩), .pointer (some ⟨w3.heap.size + 1 + 1, 0, none⟩)]) rfl trivial (enters_of Tryd.func112 (by kernel_rfl) rfl)
      (encs := fun y : Int × Int => #[.int .i64 y.1, .int .i64 y.2]) (Kp := BelX u.heap.size w3.heap.size) (S := fun ys => ys = moL s m l (nl + 1)) (Sp := fun pre => ∃ k, k ≤ nl + 1 ∧ pre = moL s m l k) (N := nl + 1) (w0 := u)
      (fun lp J Jx W hW hJ hJx hY h0 => moistures1_in _ (by omega) lp (w3.heap.size + 1) (w3.heap.size + 1 + 1 + 1) (w3.heap.size + 1 + 1) w3.heap.size u.heap.size cap nl a l s m r t hlen hl0 (by omega) hs' hm' hH J Jx W hJ hW.size (by omega) (by omega) (by omega) (by omega) (by omega) hY
        ((hW.cell (p := ⟨w3.heap.size + 1, 0, none⟩) (show w3.heap.size + 1 < u.heap.size by omega)).trans (Dd.out.cell 0)) ((hW.cell (p := ⟨w3.heap.size + 1, 1, none⟩) (show w3.heap.size + 1 < u.heap.size by omega)).trans (Dd.out.cell 1))
        ((hW.cell (p := ⟨w3.heap.size + 1 + 1 + 1, 0, none⟩) (show w3.heap.size + 1 + 1 + 1 < u.heap.size by omega)).trans (Dt.out.cell 0)) ((hW.cell (p := ⟨w3.heap.size + 1 + 1, 0, none⟩) (show w3.heap.size + 1 + 1 < u.heap.size by omega)).trans (Dl.out.cell 0))
        (C5.out.keep hW) hcb h0)
      BelX.trans (fun W l o o' h1 h2 h3 h4 => BelX.of (belowK_b (Nat.le_refl _) W l o o' h1 h2 h3 h4)) (Below.refl _ _) (fun _ => rfl)
      (MoI w w3.heap.size) (fun _ _ _ => False)
      (fun pre A B row hs hg hr => ⟨(by obtain ⟨v, h1, h2⟩ := hs.1; exact ⟨v, h1.grownN hg (fun r e => (hr r e).2), h2⟩), hs.2.grown hg hs.2.size (fun r e => by have := (hr r e).1; omega)⟩)
      (fun c pre A B row hs _ _ => hs.elim)
      ⟨⟨0, D9.out, fun y h => by simp at h⟩, B5⟩
      (fun x a' W => a' = { tmps := #[.agg #[.int .i64 s, .int .i64 m, .int .i64 r, .int .i64 t], .slice a l.length cap, .int .i64 nl, .pointer (some ⟨w.heap.size, 0, none⟩), undef, undef, .int .i64 0, .int .i64 0, .int .i64 0, .pointer (some ⟨w3.heap.size, 0, none⟩), undef, .int .i64 x.2,
        .agg #[.int .i64 s, .int .i64 m, .int .i64 r, .int .i64 t], .int .i64 (drE s m r t), .slice a l.length cap, .int .i64 (clE l), .int .i64 nl, .int .i64 (rgE nl 0 4000), .slice (some ⟨w2.heap.size, 0, none⟩) 3 3, .int .i64 0, .int .i64 0, .bool false, undef,
        .agg #[.int .i64 s, .int .i64 m, .int .i64 r, .int .i64 t], .slice a l.length cap, .int .i64 nl, .func (.func 112) #[] #[.pointer (some ⟨w3.heap.size + 1, 0, none⟩), .pointer (some ⟨w3.heap.size + 1 + 1 + 1, 0, none⟩), .pointer (some ⟨w3.heap.size + 1 + 1, 0, none⟩)], .int .i64 x.1, .int .i64 x.2, undef, undef], defers := [] })
      (fun x a' pre A B row hs _ _ => hs)
      ?assign ?body ?done ?stop
    case assign =>
      rintro lp pre ⟨i, v⟩ W K hi hK
      gi_wp2
      exact hK _ _ ((KeepsOthers.refl W).from _) (BelX.refl _ _ W) hi rfl
    case body =>
      rintro lp pre ⟨i, v⟩ a' W hlp hr ⟨⟨v0, hX, -⟩, hB⟩ rfl hlt
      obtain ⟨x0, xf⟩ := hX.one
      have lx := hX.lt
      gi_wp2
      refine ⟨(KeepsOthers.setCell _ _ _).from _, ⟨by simp, fun k hk hx => Below.heap_setCell W ⟨w3.heap.size, 0, none⟩ _ k hx⟩, ⟨v, hX.set 0 _, fun y h => ?_⟩, hB.setCell (p := ⟨w3.heap.size, 0, none⟩) (by simp; omega) _⟩
      rw [List.getLast?_concat] at h
      cases h
      rfl
    case done =>
      rintro D ys W hDl rfl ⟨⟨v0, hX, hv⟩, hB⟩ hK
      have hv0 : v0 = moF s m l nl := hv ((nl : Int), moF s m l nl) (by rw [moL_succ]; simp)
      subst hv0
      obtain ⟨x0, xf⟩ := hX.one
      have lx := hX.lt
      gi_wp2
      refine ⟨by simp, .inl ⟨_, _, rfl, run_takeDeferred hK, ?_⟩⟩
      refine ⟨_, (by simp [results, Tryd.results39, go_sem]; rfl), by rw [HV.out]; rfl, ?_⟩
      exact hB.trans (belowK_b (w := w) (Nat.le_refl _) _ D _ _ (by omega) hK rfl rfl)
    case stop =>
      rintro D c pre W hDl _ h _
      exact h.elim
  · have hz' : (e0 != 0) = true := by simpa using hz
    have HV := Lib.hid (show moV s m r t l last = (0, e0) by unfold moV; rw [if_neg (by rw [H0.out]; exact hz), H0.out])
    gi_wp2
    exact ⟨_, (by simp [results, Tryd.results39, go_sem]; rfl), by rw [HV.out], B3⟩
end Go.Proofs.YtnjlifmjjihahaaDoor
