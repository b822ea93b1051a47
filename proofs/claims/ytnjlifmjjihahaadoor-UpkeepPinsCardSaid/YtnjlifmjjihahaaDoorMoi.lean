/-
  The moistures of the days: upkeep.moistures, its iterator.
-/
import Derived.Test.YtnjlifmjjihahaaDoorHum
namespace Go.Proofs.YtnjlifmjjihahaaDoor
open Go Go.RowKit Go.Shelf
attribute [local go_sem] Oper.semAt_some
/-- the moisture after day k -/
def moF (s r : Int) (l : List (Int × Int)) : Nat → Int
  | 0 => 1000 * s
  | k + 1 => moF s r l k + dn (1000 * huV l ((k : Int) + 1) - moF s r l k) r
/-- the first k days with their moistures -/
def moL (s r : Int) (l : List (Int × Int)) (k : Nat) : List (Int × Int) := (List.range k).map fun (j : Nat) => ((j : Int), moF s r l j)
theorem moL_succ (s r : Int) (l : List (Int × Int)) (k : Nat) : moL s r l (k + 1) = moL s r l k ++ [((k : Int), moF s r l k)] := by unfold moL; rw [List.range_succ, List.map_append]; rfl
theorem dn_near {x r : Int} (h : 1 ≤ r) : (0 ≤ x → 0 ≤ dn x r ∧ dn x r ≤ x) ∧ (x ≤ 0 → x ≤ dn x r ∧ dn x r ≤ 0) := by
  unfold dn
  refine ⟨fun h0 => ⟨Int.ediv_nonneg h0 (by omega), Int.ediv_le_self _ h0⟩, fun h0 => ⟨?_, ?_⟩⟩
  · exact Int.le_ediv_of_mul_le (by omega) (by
      have := Int.mul_le_mul_of_nonpos_left h0 h
      omega)
  · exact Int.ediv_nonpos_of_nonpos_of_neg h0 (by omega)
theorem moF_bd {s r : Int} {l : List (Int × Int)} (hs : 0 ≤ s ∧ s ≤ 1000) (hr : 1 ≤ r) (hH : ∀ d, 0 ≤ huV l d ∧ huV l d ≤ 1000) : ∀ k, 0 ≤ moF s r l k ∧ moF s r l k ≤ 1000000
  | 0 => by unfold moF; omega
  | k + 1 => by
    have ih := moF_bd hs hr hH k
    have h := hH ((k : Int) + 1)
    have h1 := dn_near (x := 1000 * huV l ((k : Int) + 1) - moF s r l k) hr
    unfold moF
    rcases Int.le_total 0 (1000 * huV l ((k : Int) + 1) - moF s r l k) with c | c
    · have := h1.1 c; omega
    · have := h1.2 c; omega
theorem grown_of_below {w w' : World} (h : Below w.heap.size w w') : w.grownBy w' none := ⟨h.os, h.tape, h.output, h.size, fun k hk _ => h.block k hk⟩
theorem hum_calls (l : List (Int × Int)) (a : Option Addr) (cap : Nat) (day : Int) (w : World) (hlen : l.length ≤ 1000) (hl0 : 0 < l.length) (hs : ClAt w a l) :
    Calls Tryd.prog 84 #[.slice a l.length cap, .int .i64 day] w fun e w' => e = .returned (.int .i64 (huV l day)) ∧ Below w.heap.size w w' := callsIn_wide.1 (hum_in l a cap day w hlen hl0 hs)
/-- what lay below n lies as it lay, block X apart -/
structure BelX (n X : Nat) (w w' : World) : Prop where
  size : w.heap.size ≤ w'.heap.size
  block : ∀ k, k < n → k ≠ X → w'.heap[k]? = w.heap[k]?
theorem BelX.refl (n X : Nat) (w : World) : BelX n X w w := ⟨Nat.le_refl _, fun _ _ _ => rfl⟩
theorem BelX.trans {n X : Nat} {A B C : World} (h : BelX n X A B) (k : BelX n X B C) : BelX n X A C := ⟨Nat.le_trans h.size k.size, fun i hi hx => (k.block i hi hx).trans (h.block i hi hx)⟩
theorem BelX.of {n X : Nat} {w w' : World} (h : Below n w w') : BelX n X w w' := ⟨h.size, fun k hk _ => h.block k hk⟩
theorem BelX.cell {n X : Nat} {w w' : World} (h : BelX n X w w') {p : Addr} (hp : p.block < n) (hx : p.block ≠ X) : w'.cell? p = w.cell? p := World.cell?_of_block (h.block _ hp hx)
theorem ClAt.keepX {n X : Nat} {w w' : World} {a : Option Addr} {l : List (Int × Int)} (h : ClAt w a l) (hb : BelX n X w w') (ha : ∀ b, (∃ o, a = some ⟨b, o, none⟩) → b < n ∧ b ≠ X) : ClAt w' a l := by
  rcases h with h | ⟨b, o, rfl, hbl, hc⟩
  · exact .inl h
  · obtain ⟨hB, hX⟩ := ha b ⟨o, rfl⟩
    exact .inr ⟨b, o, rfl, Nat.lt_of_lt_of_le hbl hb.size, fun j hj => ⟨(hb.cell (p := ⟨b, _, none⟩) hB hX).trans (hc j hj).1, (hb.cell (p := ⟨b, _, none⟩) hB hX).trans (hc j hj).2⟩⟩
def MoR (s r : Int) (l : List (Int × Int)) (last : Nat) (J Jx : List (Int × Int) → World → Prop) (e : Ending) (W' : World) : Prop :=
  (∃ v, e = .returned v) ∧ ((∃ ys, ys = moL s r l (last + 1) ∧ J ys W') ∨ (∃ pre, (∃ m, m ≤ last + 1 ∧ pre = moL s r l m) ∧ Jx pre W'))
set_option maxRecDepth 100000 in
set_option maxHeartbeats 2000000 in
theorem moistures1_in (n : Nat) (hn : 1 ≤ n) (lp Bd Bt Bl X n₀ cap last : Nat) (a : Option Addr) (l : List (Int × Int)) (s m r t : Int) (hlen : l.length ≤ 1000) (hl0 : 0 < l.length) (hlast : last ≤ 100000) (hs : 0 ≤ s ∧ s ≤ 1000) (hm : 1 ≤ m ∧ m ≤ 365) (hH : ∀ d, 0 ≤ huV l d ∧ huV l d ≤ 1000) (J Jx : List (Int × Int) → World → Prop)
    (W : World) (hJ : AbidesFrom W.heap.size J) (hn₀ : n₀ ≤ W.heap.size) (hBd : Bd < n₀) (hBt : Bt < n₀) (hBl : Bl < n₀) (xd : Bd ≠ X) (xl : Bl ≠ X)
    (hY : ∀ pre y W1, J pre W1 → pre.length < last + 1 → YieldAt Fence.wide (n - 1) Tryd.prog lp #[.int .i64 y.1, .int .i64 y.2] W1 fun e W' =>
      (e = .returned (.bool true) ∧ J (pre ++ [y]) W' ∧ BelX n₀ X W1 W') ∨ (e = .returned (.bool false) ∧ Jx (pre ++ [y]) W'))
    (cd0 : W.cell? ⟨Bd, 0, none⟩ = some (.int .i64 s)) (cd1 : W.cell? ⟨Bd, 1, none⟩ = some (.int .i64 m)) (ct : W.cell? ⟨Bt, 0, none⟩ = some (.int .i64 last)) (cl : W.cell? ⟨Bl, 0, none⟩ = some (.slice a l.length cap))
    (hc : ClAt W a l) (hcb : ∀ b, (∃ o, a = some ⟨b, o, none⟩) → b < n₀ ∧ b ≠ X) (h0 : J [] W) :
    CallsIn Fence.wide n Tryd.prog 112 #[.func (.yield lp) #[] #[], .pointer (some ⟨Bd, 0, none⟩), .pointer (some ⟨Bt, 0, none⟩), .pointer (some ⟨Bl, 0, none⟩)] W (MoR s m l last J Jx) := by
  refine callsIn_of_wp Tryd.func112 rfl trivial ?_ rfl
  simp only [Tryd.ntmps112, List.size_toArray, List.length_cons, List.length_nil, Nat.reduceAdd, Nat.reduceSub, Array.replicate_succ, Array.replicate_zero, List.push_toArray, List.append_toArray, List.nil_append, List.cons_append]
  have HC := Lib.hid hc; clear hc
  have HD0 := Lib.hid cd0; have HD1 := Lib.hid cd1; have HT := Lib.hid ct; have HL := Lib.hid cl
  have W0 : IntKind.i64.wrap (1000 * s) = 1000 * s := IntWalk.i64_in _ (by omega)
  have W1 : IntKind.i64.wrap ((last : Int) + 1) = (last : Int) + 1 := IntWalk.i64_in _ (by omega)
  have ld : Bd < W.heap.size := by omega
  have lt : Bt < W.heap.size := by omega
  gi_wp2
  clear cd0 cd1 ct cl W0 W1
  gi_loopw [5, 12] (fun v i wr => ∃ k : Nat, k ≤ last + 1 ∧ i = .int .i64 (k : Int) ∧ v = .int .i64 (moF s m l (k - 1)) ∧ J (moL s m l k) wr ∧ BelX n₀ X W wr)
    (fun v i _ => ((last : Int) + 1 - intOf i).toNat)
  case atStart => exact ⟨0, Nat.zero_le _, rfl, rfl, by simpa [moL] using h0, BelX.refl _ _ _⟩
  case round =>
    obtain ⟨k, hk, rfl, rfl, hJs, hB⟩ := hrel
    have zk := hB.size
    by_cases hlt : k < last + 1
    · have hp : (k : Int) < (last : Int) + 1 := by omega
      rcases Nat.eq_zero_or_pos k with hz | hz
      · subst hz
        have HM := Lib.hid (show moF s m l 0 = 1000 * s from rfl)
        obtain ⟨fn, tmps, assign, body, hy, hR⟩ := hY _ (0, 1000 * s) wr hJs (by simp [moL])
        dsimp only at hy
        simp only [Nat.zero_sub, HM.out, Int.cast_ofNat_Int]
        gi_wp2
        refine hR.mono ?_
        rintro e W3 (⟨rfl, hJ3, hk3⟩ | ⟨rfl, hJx3⟩)
        · gi_wp2
          go_roundw
          case rel => exact ⟨1, by omega, rfl, by simp [HM.out], by rw [moL_succ, HM.out]; exact hJ3, hB.trans hk3⟩
          case measure => (simp [intOf]; try omega)
        · gi_wp2
          refine bodyPost_ret (results_none rfl _ _ _) rfl ?_
          exact ⟨⟨_, rfl⟩, .inr ⟨_, ⟨1, by omega, by rw [moL_succ, HM.out]; rfl⟩, hJx3⟩⟩
      · obtain ⟨j, rfl⟩ : ∃ j, k = j + 1 := ⟨k - 1, by omega⟩
        have b0 := moF_bd hs hm.1 hH j
        have b1 := moF_bd hs hm.1 hH (j + 1)
        have hh := hH ((j : Int) + 1)
        have HM := Lib.hid (show moF s m l (j + 1) = moF s m l j + dn (1000 * huV l ((j : Int) + 1) - moF s m l j) m from rfl)
        have HX := Lib.hid (show ∃ x y h, moF s m l j = x ∧ moF s m l (j + 1) = y ∧ huV l ((j : Int) + 1) = h from ⟨_, _, _, rfl, rfl, rfl⟩)
        obtain ⟨x, y, h, hx, hy', hh'⟩ := HX.out
        have HS := Lib.hid (show moL s m l (j + 1 + 1) = moL s m l (j + 1) ++ [((j : Int) + 1, y)] by rw [moL_succ, hy']; rfl)
        have HJS := Lib.hid hJs
        have HL2 := Lib.hid (show (moL s m l (j + 1)).length = j + 1 by simp [moL])
        rw [hx, hy', hh'] at HM
        rw [hx] at b0; rw [hy'] at b1; rw [hh'] at hh
        have CD := Lib.hid (fun v => dn_any (1000 * h - x) m v (by omega) (by omega) (by omega) (by omega))
        have CH := Lib.hid (fun v (hv : ClAt v a l) => (show Calls Tryd.prog 84 #[.slice a l.length cap, .int .i64 ((j : Int) + 1)] v fun e w' => e = .returned (.int .i64 h) ∧ Below v.heap.size v w' from by rw [← hh']; exact hum_calls l a cap _ v hlen hl0 hv))
        have HZ := Lib.hid (show ∃ z, dn (1000 * h - x) m = z from ⟨_, rfl⟩)
        obtain ⟨z, hz'⟩ := HZ.out
        rw [hz'] at CD HM
        have hyz : y = x + z := HM.out
        subst hyz
        have HMY := Lib.hid hy'
        have cl2 := (hB.cell (p := ⟨Bl, 0, none⟩) hBl xl).trans HL.out
        have cd2 := (hB.cell (p := ⟨Bd, 1, none⟩) hBd xd).trans HD1.out
        have ll : Bl < wr.heap.size := by omega
        have ld2 : Bd < wr.heap.size := by omega
        simp only [Nat.add_sub_cancel, Int.natCast_add, Int.cast_ofNat_Int, hx]
        clear hx hy' hh' HX hz' HZ HM
        have w1 : IntKind.i64.wrap (1000 * h) = 1000 * h := IntWalk.i64_in _ (by omega)
        have w2 : IntKind.i64.wrap (1000 * h - x) = 1000 * h - x := IntWalk.i64_in _ (by omega)
        have w3 : IntKind.i64.wrap (x + z) = x + z := IntWalk.i64_in _ (by omega)
        have hp1 : (0 : Int) < (j : Int) + 1 := by omega
        have HCr := Lib.hid (HC.out.keepX hB hcb)
        gi_wp2
        gi_region_with ((try refine ⟨trivial, ?_⟩); first
          | (gi_at_call 84; refine (callsIn_wide.2 (CH.out wr.drew HCr.out)).mono ?_; rintro e w9 ⟨rfl, h9⟩; have hB9 : Below wr.heap.size wr w9 := below_via (by (repeat' (first | (with_reducible exact Below.refl _ _) | (with_reducible assumption) | (with_reducible refine Below.drew ?_) | (with_reducible refine below_drewN ?_ _) | (with_reducible refine Below.setCell ?_ ?_ _) | (with_reducible refine Below.alloc ?_ ?_ _) | go_size | omega))) h9; clear h9; have cd9 := (hB9.cell (p := ⟨Bd, 1, none⟩) ld2).trans cd2)
          | (gi_at_call 81; refine (callsIn_wide.2 (CD.out _)).mono ?_; rintro e w8 ⟨rfl, hw8⟩; have hw8 := hw8.symm; subst hw8))
        all_goals
          have hJ9 := hJ _ wr w9 none HJS.out (grown_of_below hB9) (fun r e => by cases e)
          obtain ⟨fn, tmps, assign, body, hy, hR⟩ := hY _ ((j : Int) + 1, x + z) w9 hJ9 (by rw [HL2.out]; omega)
          dsimp only at hy
          have hB99 := hB.trans (BelX.of (hB9.mono (by omega)))
          clear hJ9
          gi_wp2
          refine hR.mono ?_
          rintro e W3 (⟨rfl, hJ3, hk3⟩ | ⟨rfl, hJx3⟩)
          · gi_wp2
            go_roundw
            case rel => exact ⟨j + 1 + 1, by omega, by go_num, by rw [show j + 1 + 1 - 1 = j + 1 from rfl, HMY.out], by rw [HS.out]; exact hJ3, hB99.trans hk3⟩
            case measure => (simp [intOf]; try omega)
          · gi_wp2
            refine bodyPost_ret (results_none rfl _ _ _) rfl ?_
            exact ⟨⟨_, rfl⟩, .inr ⟨_, ⟨j + 1 + 1, by omega, HS.out.symm⟩, hJx3⟩⟩
    · obtain rfl : k = last + 1 := by omega
      have hneg : ¬ (((last + 1 : Nat) : Int) < (last : Int) + 1) := by omega
      gi_wp2
      go_end0
      exact ⟨⟨_, rfl⟩, .inl ⟨_, rfl, hJs⟩⟩
end Go.Proofs.YtnjlifmjjihahaaDoor
