/-
  All smallest explanations: upkeep.Least, for all lists. Condition: the table of primes holds what its initialiser lays.
-/
import Derived.Test.YtnjlifmjjihahaaDoorExp
namespace Go.Proofs.YtnjlifmjjihahaaDoor
open Go Go.RowKit
theorem comb_len : ∀ (l : List Int) (k : Nat), (comb k l).length ≤ 2 ^ l.length
  | [], 0 => by simp [comb]
  | [], k + 1 => by simp [comb]
  | x :: xs, 0 => by simp only [comb, List.length_singleton]; exact Nat.one_le_two_pow
  | x :: xs, k + 1 => by
    have h1 := comb_len xs k
    have h2 := comb_len xs (k + 1)
    simp only [comb, List.length_append, List.length_map, List.length_cons, Nat.pow_succ]
    omega
theorem wpList_loadV {P : Program} {w : World} {ops : Array Oper} {rest : List Oper} {o : Oper} {a : Act} {Q : Exit → Act → World → Prop} (hg : o.guard = none) (ty : TypeId) (x : Operand) (hop : o.op = .load ty x)
    (ad : Addr) (hx : a.eval x = .pointer (some ad)) (v : Value) (hr : (Instr.loadAt ty (.pointer (some ad))).run P w = .ok v w) (h : wpList P ops Q rest (a.put o.dst v) w) : wpList P ops Q (o :: rest) a w := by
  refine wpList_plain hg fun K hK' => ?_
  unfold Oper.wp execOp
  simp only [hop, hx, hr, Sem.run_bind, Result.andThen_ok, Sem.run_pure]
  exact hK' _ _ h
theorem loadSg (s : Nat → Nat) (f : Nat) {w : World} {b : Nat} {t : TypeId} (h : Box w b (ogc s f) t) : (Instr.loadAt 127 (.pointer (some ⟨b, 0, none⟩))).run Tryd.prog w = .ok (.agg (sgc s)) w := by
  have h := run_loadAt_mid (P := Tryd.prog) w b 0 127 (sgc s).toList _ (sgc_range s f h) Tryd.underlying127 rfl (by rw [Array.length_toList]; exact infoSgs s)
  rwa [Array.toArray_toList] at h
theorem loadOg (s : Nat → Nat) (f : Nat) {w : World} {b : Nat} {t : TypeId} (h : Box w b (ogc s f) t) : (Instr.loadAt 138 (.pointer (some ⟨b, 0, none⟩))).run Tryd.prog w = .ok (.agg (ogc s f)) w := by
  have h := run_loadAt_mid (P := Tryd.prog) w b 0 138 (ogc s f).toList _ (ogc_range s f h) Tryd.underlying138 rfl (by rw [Array.length_toList]; exact infoOgs s f)
  rwa [Array.toArray_toList] at h
/-- what Least answers where nothing is wrong -/
def LsOk (s : Nat → Nat) (f : Nat) (B : Nat) (e : Ending) (w' : World) : Prop :=
  if 12 < (ntsI s 88).length then e = .returned (.tuple #[.slice none 0 0, .int .i64 8])
  else (∃ k, k ≤ (ntsI s 88).length ∧ (∀ j, j < k → exps s f j = []) ∧ exps s f k ≠ [] ∧ ∃ v, e = .returned (.tuple #[v, .int .i64 0]) ∧ RowsO w' B v (exps s f k)) ∨
    ((∀ j, j ≤ (ntsI s 88).length → exps s f j = []) ∧ e = .returned (.tuple #[.slice none 0 0, .int .i64 12]))
def LsR (l : List Tt) (fl : List Int) (w : World) (e : Ending) (w' : World) : Prop :=
  (if ouE l fl = 0 then LsOk (sgN l l.length) (fbE fl) w.heap.size e w' else e = .returned (.tuple #[.slice none 0 0, .int .i64 (ouE l fl)])) ∧ Below w.heap.size w w'
theorem sgN_b {l : List Tt} (h : l.length ≤ 60) : NatB (sgN l l.length) := fun n => Nat.lt_of_lt_of_le (sgN_lt l l.length n) (by
  have : (2 : Nat) ^ l.length ≤ 2 ^ 64 := Nat.pow_le_pow_right (by omega) (by omega)
  exact this)
theorem ouE_ok {l : List Tt} {fl : List Int} (h : ouE l fl = 0) : ctsE l = 0 ∧ l.length ≤ 60 ∧ fl.all (isT l.length) = true ∧ asE fl = 0 := by
  unfold ouE at h
  by_cases hc : ctsE l = 0
  · rw [if_neg (by simpa using hc)] at h
    unfold seE at h
    by_cases hA : fl.all (isT l.length) = true
    · rw [if_pos hA] at h; exact ⟨hc, (ctsE_ok hc).1, hA, h⟩
    · rw [if_neg hA] at h; omega
  · rw [if_pos hc] at h; exact absurd h hc
theorem fbE_b {l : List Tt} {fl : List Int} (h : ouE l fl = 0) : fbE fl < 18446744073709551616 := fbE_lt (fun x hx => by
  obtain ⟨_, h60, hA, _⟩ := ouE_ok h
  have h := List.all_eq_true.1 hA x hx
  unfold isT inR at h
  have h := of_decide_eq_true h
  omega)
set_option maxRecDepth 100000 in
set_option maxHeartbeats 1600000 in
theorem least_any (l : List Tt) (a : Option Addr) (cap : Nat) (fl : List Int) (af : Option Addr) (capf : Nat) (w : World) (hlen : l.length ≤ 1000) (hfl : fl.length ≤ 1000) (hp : PrimesT w) (hs : SlT w a l) (hf : SetAt w af fl) :
    Calls Tryd.prog 62 #[.slice a l.length cap, .slice af fl.length capf] w (LsR l fl w) := by
  have CO := Lib.hid (outcomeOf_any l a cap fl af capf w hlen hfl hp hs hf)
  clear hp hs hf
  go_enter Tryd.func62, Tryd.ntmps62
  go_wp2_with fail
  refine CO.out.mono ?_
  rintro e w2 ⟨⟨s0, f0, rfl, hsf⟩, h2⟩
  have HSF := Lib.hid hsf; clear hsf
  have HE := Lib.hid (show ∃ x, ouE l fl = x from ⟨_, rfl⟩)
  obtain ⟨e0, he0⟩ := HE.out
  rw [he0]
  have H0 := Lib.hid he0; clear he0 HE CO
  have Z2 := Lib.hid (Box.new w2 Tryd.zeroCells138 138 (n := w2.heap.size) rfl)
  rw [zeroOg] at Z2
  dsimp only
  iterate 14 (try go_step)
  refine wp_store_mid 138 (.tmp 6) (.tmp 15) rfl w2.heap.size 0 (ogc s0 f0) rfl rfl (by rw [zeroOg, ogc_size, ← ogc_size (fun _ => 0) 0]; exact Z2.out.there) (infoOgs s0 f0) (ogc_one s0 f0) ?_
  rw [zeroOg]
  have Z3 := Lib.hid (Z2.out.putOg (s' := s0) (f' := f0))
  have zw := h2.size
  have B3 : Below w.heap.size w ((w2.alloc (.cells (ogc (fun _ => 0) 0) 138)).setCells w2.heap.size 0 (ogc s0 f0).toList) := Below.sets zw _ _ (by (repeat' (first | (with_reducible exact Below.refl _ _) | (with_reducible assumption) | (with_reducible refine Below.drew ?_) | (with_reducible refine below_drewN ?_ _) | (with_reducible refine Below.setCell ?_ ?_ _) | (with_reducible refine Below.alloc ?_ ?_ _) | go_size | omega)))
  clear Z2 h2
  generalize hob : w2.heap.size = ob at *
  generalize ((w2.alloc (.cells (ogc (fun _ => 0) 0) 138)).setCells ob 0 (ogc s0 f0).toList) = u at *
  clear hob
  have lz := Z3.out.lt
  by_cases hz : e0 = 0
  · subst hz
    obtain ⟨rfl, rfl⟩ := HSF.out H0.out
    obtain ⟨hc0, h60, -, -⟩ := ouE_ok H0.out
    have hfb := fbE_b H0.out
    have hsb := sgN_b h60
    have HR := Lib.hid (show LsR l fl w = fun e w' => LsOk (sgN l l.length) (fbE fl) w.heap.size e w' ∧ Below w.heap.size w w' by funext e w'; unfold LsR; rw [if_pos H0.out])
    generalize sgN l l.length = s at *
    generalize fbE fl = f at *
    clear HSF hc0 H0
    go_upto_region 4 with fail
    go_step
    iterate 3 (try go_step)
    refine wpList_loadV rfl 127 (.tmp 20) rfl ⟨ob, 0, none⟩ rfl (.agg (sgc s)) (loadSg s f Z3.out) ?_
    go_wp2_with fail
    refine (notes_any s _).mono ?_
    rintro e w4 ⟨nv, rfl, hO4, h4⟩
    obtain ⟨na, nc, rfl⟩ := owns_form hO4
    have B4 := below_via B3 h4
    have Z4 := Lib.hid (Z3.out.keep h4)
    have hnl : (ntsI s 88).length ≤ 88 := by unfold ntsI; rw [List.length_map]; exact ntsTo_len s 88
    clear hO4 h4 B3 Z3 lz
    have lz := Z4.out.lt
    by_cases h12 : 12 < (ntsI s 88).length
    · have HR2 := Lib.hid (show LsOk s f w.heap.size = fun e _ => e = .returned (.tuple #[.slice none 0 0, .int .i64 8]) by funext e w'; unfold LsOk; rw [if_pos h12])
      generalize (ntsI s 88).length = nn at *
      go_wp2_with fail
      go_ret2
      rw [HR.out]
      exact ⟨by rw [HR2.out]; rfl, B4⟩
    · have hcl : ∀ k, (comb k (ntsI s 88)).length ≤ 100000 := fun k => by
        have h1 := comb_len (ntsI s 88) k
        have h2 : (2 : Nat) ^ (ntsI s 88).length ≤ 2 ^ 12 := Nat.pow_le_pow_right (by omega) (by omega)
        have h3 : (2 : Nat) ^ 12 = 4096 := rfl
        omega
      have CE := Lib.hid (fun k v (hk : k ≤ 100) => callsIn_wide.1 (explanations_in s f k v hsb hfb hk (hcl k)))
      have HR2 := Lib.hid (show LsOk s f w.heap.size = fun e w' => (∃ k, k ≤ (ntsI s 88).length ∧ (∀ j, j < k → exps s f j = []) ∧ exps s f k ≠ [] ∧ ∃ v, e = .returned (.tuple #[v, .int .i64 0]) ∧ RowsO w' w.heap.size v (exps s f k)) ∨
    ((∀ j, j ≤ (ntsI s 88).length → exps s f j = []) ∧ e = .returned (.tuple #[.slice none 0 0, .int .i64 12])) by funext e w'; unfold LsOk; rw [if_neg h12])
      generalize (ntsI s 88).length = nn at *
      clear hcl
      go_wp2_with fail
      go_loopw [28] (fun i wr => ∃ k : Nat, k ≤ nn + 1 ∧ i = .int .i64 k ∧ Hid (∀ j, j < k → exps s f j = []) ∧ Box wr ob (ogc s f) 138 ∧ Below w.heap.size w wr) (fun i _ => nn + 1 - (intOf i).toNat)
      case atStart => exact ⟨0, by omega, rfl, Lib.hid (fun j h => by omega), Z4.out, B4⟩
      case round =>
        obtain ⟨k, hk, rfl, HK, RZ, RB⟩ := hrel
        by_cases hlt : k ≤ nn
        · have hlt' : (k : Int) < (nn : Int) + 1 := by omega
          have CK := Lib.hid (CE.out k wr (by omega))
          have RZ := Lib.hid RZ
          have zr := RB.size
          go_wp2_with (refine wpList_loadV rfl 138 (.tmp 6) rfl ⟨ob, 0, none⟩ rfl (.agg (ogc s f)) (loadOg s f RZ.out) ?_)
          refine CK.out.mono ?_
          rintro e w6 ⟨⟨v6, rfl, hR6⟩, h6⟩
          obtain ⟨vs, r1, r2, r3⟩ := hR6
          obtain ⟨va, vc, rfl⟩ := owns_form r1
          have R6 := Lib.hid (show RowsO w6 wr.heap.size (.slice va (exps s f k).length vc) (exps s f k) from ⟨vs, r1, r2, r3⟩)
          have B6 := below_via RB h6
          have Z6 := Lib.hid (RZ.out.keep h6)
          have HL := Lib.hid (show ∃ m, (exps s f k).length = m from ⟨_, rfl⟩)
          obtain ⟨m, hm⟩ := HL.out
          rw [hm] at R6 ⊢
          have HM := Lib.hid hm
          clear r1 r2 r3 h6 CK hm HL
          by_cases h0 : m = 0
          · subst h0
            go_wp2_with fail
            go_roundw
            case rel => exact ⟨k + 1, by omega, by go_num, Lib.hid (fun j hj => by
              by_cases e : j = k
              · subst e; exact List.length_eq_zero_iff.1 HM.out
              · exact HK.out j (by omega)), Z6.out, B6⟩
            case measure => simp [intOf]; omega
          · have h0' : (0 : Int) < (m : Int) := by omega
            go_wp2_with fail
            go_ret2
            rw [HR.out]
            refine ⟨?_, B6⟩
            rw [HR2.out]
            exact .inl ⟨k, hlt, HK.out, (fun h => by have := HM.out; rw [h] at this; simp at this; omega), _, rfl, R6.out.base zr⟩
        · have hlt' : ¬ ((k : Int) < (nn : Int) + 1) := by omega
          go_wp2_with fail
          go_ret2
          rw [HR.out]
          refine ⟨?_, RB⟩
          rw [HR2.out]
          exact .inr ⟨fun j hj => HK.out j (by omega), rfl⟩
  · have hz' : (e0 != 0) = true := by simpa using hz
    have HZ := Lib.hid hz; clear hz
    go_wp2_with fail
    go_ret2
    exact ⟨by rw [if_neg (by rw [H0.out]; exact HZ.out), H0.out]; rfl, B3⟩
end Go.Proofs.YtnjlifmjjihahaaDoor
