/-
  Lists of tests: (listed).add and upkeep.CheckTests, for all lists. Condition: the table of primes holds what its initialiser lays.
-/
import Derived.Test.YtnjlifmjjihahaaDoorPui
import Derived.Test.YtnjlifmjjihahaaDoorMpt
namespace Go.Proofs.YtnjlifmjjihahaaDoor
open Go.RowKit
def Tt.e (t : Tt) : Int := ctE t.lo t.hi t.p t.q
def AddR (t : Tt) (b B : Nat) (l : List Tt) (w : World) (e : Ending) (w' : World) : Prop :=
  e = .returned (.int .i64 (if t.e ≠ 0 then t.e else if t ∈ l then 5 else 0)) ∧ Below B w w' ∧ (t.e = 0 → t ∉ l → MapT w' b (l ++ [t]))
set_option maxRecDepth 100000 in
set_option maxHeartbeats 1600000 in
theorem add_any (t : Tt) (b B : Nat) (l : List Tt) (w : World) (hp : PrimesT w) (hm : MapT w b l) (hB : B ≤ b) :
    Calls Tryd.prog 103 #[.map (some b), .agg #[.int .i64 t.lo, .int .i64 t.hi, .int .i64 t.p, .int .i64 t.q]] w (AddR t b B l w) := by
  obtain ⟨lo, hi, p, q⟩ := t
  have HC := Lib.hid (checkTest_any lo hi p q _ (hp.keep ((Below.refl _ w).alloc (Nat.le_refl _) (.cells #[.int .i64 lo, .int .i64 hi, .int .i64 p, .int .i64 q] 134)))); clear hp
  have HE := Lib.hid (show ∃ x, Tt.e ⟨lo, hi, p, q⟩ = x from ⟨_, rfl⟩)
  obtain ⟨x, hx⟩ := HE.out
  rw [show ctE lo hi p q = x from hx] at HC
  have HX := Lib.hid hx; clear hx HE
  have HM := Lib.hid hm; have hml := hm.lt; clear hm
  by_cases hz : x = 0
  · subst hz
    by_cases ht : (⟨lo, hi, p, q⟩ : Tt) ∈ l
    · have HT := Lib.hid ht; clear ht
      go_enter Tryd.func103, Tryd.ntmps103
      go_wp2_with fail
      refine HC.out.mono ?_
      rintro e w2 ⟨rfl, h2⟩
      have D2 := (Box.new w #[.int .i64 lo, .int .i64 hi, .int .i64 p, .int .i64 q] 134 (n := w.heap.size) rfl).keep h2
      have B2 : Below w.heap.size w w2 := below_via (by (repeat' (first | (with_reducible exact Below.refl _ _) | (with_reducible assumption) | (with_reducible refine Below.drew ?_) | (with_reducible refine below_drewN ?_ _) | (with_reducible refine Below.setCell ?_ ?_ _) | (with_reducible refine Below.alloc ?_ ?_ _) | go_size | omega))) h2
      have L : (Instr.lookup 143 (.map (some b)) (.agg #[.int .i64 lo, .int .i64 hi, .int .i64 p, .int .i64 q]) false).run Tryd.prog w2 = .ok (.bool true) w2 := look_yes (HM.out.keep B2) HT.out
      obtain ⟨d0, d1, d2, d3, -⟩ := D2.four
      clear h2 D2
      go_wp2_with fail
      go_ret
      exact ⟨ret_int (by simp [HX.out, HT.out]), B2.mono (by omega), fun _ h => absurd HT.out h⟩
    · have HT := Lib.hid ht; clear ht
      go_enter Tryd.func103, Tryd.ntmps103
      go_wp2_with fail
      refine HC.out.mono ?_
      rintro e w2 ⟨rfl, h2⟩
      have D2 := (Box.new w #[.int .i64 lo, .int .i64 hi, .int .i64 p, .int .i64 q] 134 (n := w.heap.size) rfl).keep h2
      have B2 : Below w.heap.size w w2 := below_via (by (repeat' (first | (with_reducible exact Below.refl _ _) | (with_reducible assumption) | (with_reducible refine Below.drew ?_) | (with_reducible refine below_drewN ?_ _) | (with_reducible refine Below.setCell ?_ ?_ _) | (with_reducible refine Below.alloc ?_ ?_ _) | go_size | omega))) h2
      have M2 := HM.out.keep B2
      have L : (Instr.lookup 143 (.map (some b)) (.agg #[.int .i64 lo, .int .i64 hi, .int .i64 p, .int .i64 q]) false).run Tryd.prog w2 = .ok (.bool false) w2 := look_no M2 HT.out
      obtain ⟨w3, hrun, hM3, hg3⟩ := put_new M2 HT.out
      have L2 : (Instr.mapUpdate 143 (.map (some b)) (.agg #[.int .i64 lo, .int .i64 hi, .int .i64 p, .int .i64 q]) (.bool true)).run Tryd.prog w2 = .ok () w3 := hrun
      obtain ⟨d0, d1, d2, d3, -⟩ := D2.four
      have z2 := B2.size
      have B3 : Below B w w3 := (B2.mono (by omega)).grown hg3 (by omega) (fun k e => by cases e; exact hB)
      have HM3 := Lib.hid hM3
      clear h2 D2 hrun hM3 M2 hg3
      go_wp2_with fail
      go_ret
      exact ⟨ret_int (by simp [HX.out, HT.out]), B3, fun _ _ => HM3.out⟩
  · have hz' : (x != 0) = true := by simpa using hz
    have HZ := Lib.hid hz; clear hz
    go_enter Tryd.func103, Tryd.ntmps103
    go_wp2_with fail
    refine HC.out.mono ?_
    rintro e w2 ⟨rfl, h2⟩
    have B2 : Below w.heap.size w w2 := below_via (by (repeat' (first | (with_reducible exact Below.refl _ _) | (with_reducible assumption) | (with_reducible refine Below.drew ?_) | (with_reducible refine below_drewN ?_ _) | (with_reducible refine Below.setCell ?_ ?_ _) | (with_reducible refine Below.alloc ?_ ?_ _) | go_size | omega))) h2
    clear h2
    go_wp2_with fail
    go_ret
    exact ⟨ret_int (by rw [HX.out]; simp [HZ.out]), B2.mono (by omega), fun h => absurd (HX.out ▸ h) HZ.out⟩
/-- the error of the tests of a list behind those seen -/
def ctsF : List Tt → List Tt → Int
  | _, [] => 0
  | seen, t :: l => if t.e ≠ 0 then t.e else if t ∈ seen then 5 else ctsF (seen ++ [t]) l
def ctsE (l : List Tt) : Int := if l.length > 60 then 8 else ctsF [] l
/-- tests at a slice -/
def SlT (w : World) (a : Option Addr) (l : List Tt) : Prop := l = [] ∨ ∃ b o, a = some ⟨b, o, none⟩ ∧ b < w.heap.size ∧ ∀ j (h : j < l.length),
  w.cell? ⟨b, o + j * 4, none⟩ = some (.int .i64 l[j].lo) ∧ w.cell? ⟨b, o + j * 4 + 1, none⟩ = some (.int .i64 l[j].hi) ∧ w.cell? ⟨b, o + j * 4 + 2, none⟩ = some (.int .i64 l[j].p) ∧ w.cell? ⟨b, o + j * 4 + 3, none⟩ = some (.int .i64 l[j].q)
theorem SlT.keep {w w' : World} {a : Option Addr} {l : List Tt} (h : SlT w a l) (hb : Below w.heap.size w w') : SlT w' a l := by
  rcases h with h | ⟨b, o, e, hl, hc⟩
  · exact .inl h
  · refine .inr ⟨b, o, e, Nat.lt_of_lt_of_le hl hb.size, fun j hj => ?_⟩
    obtain ⟨c0, c1, c2, c3⟩ := hc j hj
    exact ⟨(hb.cell (p := ⟨b, _, none⟩) hl).trans c0, (hb.cell (p := ⟨b, _, none⟩) hl).trans c1, (hb.cell (p := ⟨b, _, none⟩) hl).trans c2, (hb.cell (p := ⟨b, _, none⟩) hl).trans c3⟩
theorem SlT.at {w : World} {a : Option Addr} {l : List Tt} (h : SlT w a l) {k : Nat} (hk : k < l.length) : ∃ b o, a = some ⟨b, o, none⟩ ∧ b < w.heap.size ∧
    w.cell? ⟨b, o + k * 4, none⟩ = some (.int .i64 l[k].lo) ∧ w.cell? ⟨b, o + k * 4 + 1, none⟩ = some (.int .i64 l[k].hi) ∧ w.cell? ⟨b, o + k * 4 + 2, none⟩ = some (.int .i64 l[k].p) ∧ w.cell? ⟨b, o + k * 4 + 3, none⟩ = some (.int .i64 l[k].q) := by
  rcases h with h | ⟨b, o, e, hl, hc⟩
  · subst h; simp at hk
  · exact ⟨b, o, e, hl, hc k hk⟩
theorem ctsF_drop {l : List Tt} {k : Nat} (h : k < l.length) (seen : List Tt) : ctsF seen (l.drop k) = if l[k].e ≠ 0 then l[k].e else if l[k] ∈ seen then 5 else ctsF (seen ++ [l[k]]) (l.drop (k + 1)) := by
  rw [List.drop_eq_getElem_cons h]; rfl
set_option maxRecDepth 100000 in
set_option maxHeartbeats 1600000 in
theorem checkTests_any (l : List Tt) (a : Option Addr) (cap : Nat) (w : World) (hlen : l.length ≤ 1000) (hp : PrimesT w) (hs : SlT w a l) :
    Calls Tryd.prog 60 #[.slice a l.length cap] w fun e w' => e = .returned (.int .i64 (ctsE l)) ∧ Below w.heap.size w w' := by
  have HS := Lib.hid hs; have HP := Lib.hid hp; clear hs hp
  by_cases h60 : 60 < l.length
  · have HE := Lib.hid (show ctsE l = 8 by unfold ctsE; rw [if_pos h60])
    go_enter Tryd.func60, Tryd.ntmps60
    go_wp2
    go_ret
    exact ⟨ret_int (by rw [HE.out]), by (repeat' (first | (with_reducible exact Below.refl _ _) | (with_reducible assumption) | (with_reducible refine Below.drew ?_) | (with_reducible refine below_drewN ?_ _) | (with_reducible refine Below.setCell ?_ ?_ _) | (with_reducible refine Below.alloc ?_ ?_ _) | go_size | omega))⟩
  · have HE := Lib.hid (show ctsE l = ctsF [] l by unfold ctsE; rw [if_neg h60])
    have hmm := @run_makeMap Tryd.prog
    go_enter Tryd.func60, Tryd.ntmps60
    go_wp2
    have M0 := Lib.hid (MapT.new w)
    have B0 : Below w.heap.size w (w.alloc (.map #[] 0)) := by (repeat' (first | (with_reducible exact Below.refl _ _) | (with_reducible assumption) | (with_reducible refine Below.drew ?_) | (with_reducible refine below_drewN ?_ _) | (with_reducible refine Below.setCell ?_ ?_ _) | (with_reducible refine Below.alloc ?_ ?_ _) | go_size | omega))
    clear hmm
    generalize (w.alloc (.map #[] 0)) = u at *
    go_loopw [13] (fun i wr => ∃ k : Nat, k ≤ l.length ∧ i = .int .i64 k ∧ MapT wr w.heap.size (l.take k) ∧ Hid (ctsF [] l = ctsF (l.take k) (l.drop k)) ∧ Below w.heap.size w wr) (fun i _ => l.length - (intOf i).toNat)
    case atStart => exact ⟨0, by omega, rfl, M0.out, Lib.hid rfl, B0⟩
    case round =>
      obtain ⟨k, hk, rfl, RM, HF, RB⟩ := hrel
      by_cases hlt : k < l.length
      · obtain ⟨b, o, rfl, hb, c0, c1, c2, c3⟩ := (HS.out.keep RB).at hlt
        have HD := Lib.hid (ctsF_drop hlt (l.take k))
        have HT := Lib.hid (show ∃ t, l[k] = t from ⟨_, rfl⟩)
        obtain ⟨t, ht⟩ := HT.out
        rw [ht] at c0 c1 c2 c3 HD
        have HTK := Lib.hid (show l.take (k + 1) = l.take k ++ [t] by rw [List.take_succ_eq_append_getElem hlt, ht])
        clear ht HT
        have zr := RB.size
        have CA := Lib.hid (add_any t w.heap.size w.heap.size (l.take k) _ ((HP.out.keep RB).keep ((Below.refl _ wr).alloc (Nat.le_refl _) (.cells #[.int .i64 t.lo, .int .i64 t.hi, .int .i64 t.p, .int .i64 t.q] 134))) (RM.keep ((Below.refl _ wr).alloc (Nat.le_refl _) (.cells #[.int .i64 t.lo, .int .i64 t.hi, .int .i64 t.p, .int .i64 t.q] 134))) (Nat.le_refl _))
        have B1 : Below w.heap.size w (wr.alloc (.cells #[.int .i64 t.lo, .int .i64 t.hi, .int .i64 t.p, .int .i64 t.q] 134)) := by (repeat' (first | (with_reducible exact Below.refl _ _) | (with_reducible assumption) | (with_reducible refine Below.drew ?_) | (with_reducible refine below_drewN ?_ _) | (with_reducible refine Below.setCell ?_ ?_ _) | (with_reducible refine Below.alloc ?_ ?_ _) | go_size | omega))
        unfold AddR at CA
        have HV := Lib.hid (show ∃ x, (if t.e ≠ 0 then t.e else if t ∈ l.take k then 5 else 0) = x from ⟨_, rfl⟩)
        obtain ⟨x, hx⟩ := HV.out
        rw [hx] at CA
        have HX := Lib.hid hx; clear hx HV
        clear RM
        by_cases hz : x = 0
        · subst hz
          have HN : Hid (t.e = 0 ∧ t ∉ l.take k) := Lib.hid (by
            have h := HX.out
            by_cases h1 : t.e = 0
            · rw [if_neg (by omega)] at h
              by_cases h2 : t ∈ l.take k
              · rw [if_pos h2] at h; omega
              · exact ⟨h1, h2⟩
            · rw [if_pos h1] at h; exact absurd h h1)
          go_wp2_with fail
          refine CA.out.mono ?_
          rintro e w3 ⟨rfl, h3, hm3⟩
          have M3 := Lib.hid (hm3 HN.out.1 HN.out.2)
          have B3 := B1.trans h3
          clear h3 hm3
          go_wp2_with fail
          go_roundw
          case rel => exact ⟨k + 1, by omega, by go_num, by rw [HTK.out]; exact M3.out, Lib.hid (by rw [HF.out, HD.out, HTK.out]; simp [HN.out.1, HN.out.2]), B3⟩
          case measure => simp [intOf]; omega
        · have hz' : (x != 0) = true := by simpa using hz
          have HZ := Lib.hid hz; clear hz
          go_wp2_with fail
          refine CA.out.mono ?_
          rintro e w3 ⟨rfl, h3, -⟩
          have B3 := B1.trans h3
          clear h3
          go_wp2_with fail
          go_ret
          exact ⟨ret_int (by
            rw [HE.out, HF.out, HD.out, ← HX.out]
            have h := HX.out
            by_cases h1 : t.e = 0
            · by_cases h2 : t ∈ l.take k
              · simp [h1, h2]
              · simp [h1, h2] at h; exact absurd h.symm HZ.out
            · simp [h1]), B3⟩
      · obtain rfl : k = l.length := by omega
        go_wp2_with fail
        go_ret
        exact ⟨ret_int (by rw [HE.out, HF.out]; simp [ctsF]), RB⟩
end Go.Proofs.YtnjlifmjjihahaaDoor
