/-
  The law PlateBridges: its lists of bearings and ranges.
-/
import Derived.Test.YtnfpmaenikhoaaaRbl
import Derived.Test.YtnfpmaenikhoaaaAwk3
import Derived.Deep.DeepCutAuto
namespace Go.Proofs.Ytnfpmaenikhoaaa
open Go.RowKit
def brc (l : List Br) : List Value := l.flatMap fun p => [.int .i64 p.f, .int .i64 p.b, .int .i64 p.k, .int .i64 p.a, .int .i64 p.h]
theorem brc_len (l : List Br) : (brc l).length = l.length * 5 := by
  induction l with
  | nil => rfl
  | cons y t ih => unfold brc at *; rw [List.flatMap_cons, List.length_append, ih]; simp; omega
theorem brc_get (l : List Br) : ∀ (j : Nat) (hj : j < l.length), (brc l)[j * 5]? = some (.int .i64 (l[j]).f) ∧ (brc l)[j * 5 + 1]? = some (.int .i64 (l[j]).b) ∧ (brc l)[j * 5 + 2]? = some (.int .i64 (l[j]).k) ∧ (brc l)[j * 5 + 3]? = some (.int .i64 (l[j]).a) ∧ (brc l)[j * 5 + 4]? = some (.int .i64 (l[j]).h) := by
  induction l with
  | nil => intro j hj; simp at hj
  | cons y t ih =>
    intro j hj
    cases j with
    | zero => simp [brc]
    | succ j =>
      have := ih j (by simpa using hj)
      unfold brc at *
      rw [List.flatMap_cons]
      rw [show (j + 1) * 5 = j * 5 + 1 + 1 + 1 + 1 + 1 by omega]
      simpa using this
theorem brc_one (l : List Br) : ∀ u ∈ brc l, u.oneCell' = true := by
  intro u hu
  unfold brc at hu
  rw [List.mem_flatMap] at hu
  obtain ⟨p, _, hu⟩ := hu
  simp at hu
  rcases hu with rfl | rfl | rfl | rfl | rfl <;> rfl
theorem brc_cells {w : World} {b o : Nat} {l : List Br} (h : BrsAt w b o l) : ∀ j u, (brc l)[j]? = some u → w.cell? ((⟨b, o, none⟩ : Addr).add j) = some u := by
  intro j u hu
  have hj : j < (brc l).length := (List.getElem?_eq_some_iff.1 hu).1
  rw [brc_len] at hj
  obtain ⟨h0, h1, h2, h3, h4⟩ := h (j / 5) (by omega)
  obtain ⟨g0, g1, g2, g3, g4⟩ := brc_get l (j / 5) (by omega)
  rw [addr_add]
  rcases (show j % 5 = 0 ∨ j % 5 = 1 ∨ j % 5 = 2 ∨ j % 5 = 3 ∨ j % 5 = 4 by omega) with e | e | e | e | e
  · rw [show j = j / 5 * 5 by omega] at hu ⊢; rw [← hu, g0]; exact h0
  · rw [show j = j / 5 * 5 + 1 by omega] at hu ⊢; rw [← hu, g1, ← Nat.add_assoc]; exact h1
  · rw [show j = j / 5 * 5 + 2 by omega] at hu ⊢; rw [← hu, g2, ← Nat.add_assoc]; exact h2
  · rw [show j = j / 5 * 5 + 3 by omega] at hu ⊢; rw [← hu, g3, ← Nat.add_assoc]; exact h3
  · rw [show j = j / 5 * 5 + 4 by omega] at hu ⊢; rw [← hu, g4, ← Nat.add_assoc]; exact h4
theorem brsAt_row {w : World} {base g cap : Nat} {l : List Br} (h : w.ownsRow base 97 5 (.slice (some ⟨g, 0, none⟩) l.length cap) l.length (brc l)) : BrsAt w g 0 l := by
  intro j hj
  obtain ⟨g0, g1, g2, g3, g4⟩ := brc_get l j hj
  have c0 := h.cells rfl _ _ g0; have c1 := h.cells rfl _ _ g1; have c2 := h.cells rfl _ _ g2; have c3 := h.cells rfl _ _ g3; have c4 := h.cells rfl _ _ g4
  rw [addr_add] at c0 c1 c2 c3 c4
  exact ⟨c0, c1, c2, c3, c4⟩
theorem rgsAt_row {w : World} {base g cap : Nat} {L : List (Int × Int)} (h : w.ownsRow base 90 2 (.slice (some ⟨g, 0, none⟩) L.length cap) L.length (ldc L)) : LoadsAt w g 0 L := by
  intro j hj
  obtain ⟨g0, g1⟩ := ldc_get L j hj
  have c0 := h.cells rfl _ _ g0; have c1 := h.cells rfl _ _ g1
  rw [addr_add] at c0 c1
  simp at c0 c1
  simpa using ⟨c0, c1⟩
theorem infoB : (Try.prog.info? 97).map (fun i => (i.zero, i.size, i.bytes)) = some (some (.agg #[.int .i64 0, .int .i64 0, .int .i64 0, .int .i64 0, .int .i64 0]), 5, 40) := by kernel_rfl
theorem infoR : (Try.prog.info? 90).map (fun i => (i.zero, i.size, i.bytes)) = some (some (.agg #[.int .i64 0, .int .i64 0]), 2, 16) := by kernel_rfl
def brgE (l : List Br) (P : List (Int × Int)) : Int := if 300 < l.length then 8 else if l.length ≠ P.length then 10 else brE l P l.length
def tooB (l : List Br) (P : List (Int × Int)) : Bool := (decide (20 < l.length) && decide (l.length ≤ 300)) || (decide (305 < l.length) || decide (305 < P.length))
set_option maxRecDepth 100000 in
set_option maxHeartbeats 3200000 in
theorem bridges_A (l : List Br) (P : List (Int × Int)) (a a2 : Option Addr) (cap cap2 : Nat) (w : World) (hl : l.length ≤ 9223372036854775807) (hl2 : P.length ≤ 9223372036854775807) (h : tooB l P = true) :
    Calls Try.prog 12 #[.slice a l.length cap, .slice a2 P.length cap2] w fun e w' => e = .returned (.bool true) ∧ Below w.heap.size w w' := by
  have AW := Lib.hid (fun u => awake3_any u)
  have hh : (20 < l.length ∧ l.length ≤ 300) ∨ 305 < l.length ∨ 305 < P.length := by unfold tooB at h; simpa using h
  have HH := Lib.hid hh
  clear h hh
  by_cases h1 : (20 : Int) < l.length <;> by_cases h2 : (l.length : Int) ≤ 300 <;> by_cases h3 : (305 : Int) < l.length <;> by_cases h4 : (305 : Int) < P.length
  all_goals
    first
    | (exfalso; have := HH.out; omega)
    | (go_enter Try.func12, Try.ntmps12
       go_wp2_with fail
       refine (AW.out _).mono ?_
       rintro e w1 ⟨rfl, h⟩
       go_wp2_with fail
       go_ret
       exact ⟨rfl, below_via (by (repeat' (first | (with_reducible exact Below.refl _ _) | (with_reducible assumption) | (with_reducible refine Below.drew ?_) | (with_reducible refine below_drewN ?_ _) | (with_reducible refine Below.setCell ?_ ?_ _) | (with_reducible refine Below.alloc ?_ ?_ _) | go_size | omega))) h⟩)
set_option maxRecDepth 100000 in
set_option maxHeartbeats 3200000 in
theorem bridges_B1 (V0 V1 E : Int) (l : List Br) (P : List (Int × Int)) (a a2 : Option Addr) (cap cap2 : Nat) (w : World) (hl : l.length ≤ 9223372036854775807) (hl2 : P.length ≤ 9223372036854775807) (h1 : (l.length : Int) ≤ 20) (h3 : P.length ≤ 305) (h4 : l.length ≤ 305) (hp : BrAt w a l) (hq : LdAt w a2 P) (hne : E ≠ 0) (iE : IntKind.i64.wrap E = E)
    (CB : Hid (∀ (n n2 : Nat) (a a2 : Option Addr) (cap cap2 : Nat) (u : World), n = l.length → n2 = P.length → BrAt u a l → LdAt u a2 P → Calls Try.prog 55 #[.slice a n cap, .slice a2 n2 cap2] u fun e w' => e = .returned (.tuple #[rng V0 V1, .int .i64 E]) ∧ Below u.heap.size u w'))
    (CR : Hid (∀ (u : World), BrAt u a l → LdAt u a2 P → Calls Try.prog 56 #[.slice a l.length cap, .slice a2 P.length cap2] u fun e w' => e = .returned (.tuple #[rng V0 V1, .int .i64 E]) ∧ Below u.heap.size u w')) :
    Calls Try.prog 12 #[.slice a l.length cap, .slice a2 P.length cap2] w fun e w' => e = .returned (.bool true) ∧ Below w.heap.size w w' := by
  obtain ⟨iB, hiB, hzB0, hzB1, hzB2⟩ := info_parts infoB
  obtain ⟨iR, hiR, hzR0, hzR1, hzR2⟩ := info_parts infoR
  have AW := Lib.hid (fun u => awake3_any u)
  have HP := Lib.hid hp; have HQ := Lib.hid hq
  clear hp hq
  go_enter Try.func12, Try.ntmps12
  go_wp2_with fail
  refine (AW.out _).mono ?_
  rintro e w1 ⟨rfl, h⟩
  have B1 : Below w.heap.size w w1 := below_via (by (repeat' (first | (with_reducible exact Below.refl _ _) | (with_reducible assumption) | (with_reducible refine Below.drew ?_) | (with_reducible refine below_drewN ?_ _) | (with_reducible refine Below.setCell ?_ ?_ _) | (with_reducible refine Below.alloc ?_ ?_ _) | go_size | omega))) h
  have z1 := h.size
  clear h AW
  go_upto_region 5 with fail
  go_cut [5, 6] (fun s5 s6 wx => ∃ nb : Nat, s5 = .pointer (some ⟨nb, 0, none⟩) ∧ s6 = .int .i64 E ∧ Box wx nb #[.int .i64 V0, .int .i64 V1] 90 ∧ Below w.heap.size w wx)
  case first =>
    by_cases hl0 : l = []
    · by_cases hp0 : P = []
      · subst hl0; subst hp0
        have hsB : ∀ u : World, Src Try.prog iB.size 87 (.slice a 0 cap) 0 [] u := fun u => by
          cases a with
          | none => exact Src.ofNil u Try.underlying87 cap
          | some x => exact Src.ofSlice u Try.underlying87 x 0 cap [] (by simp) (by simp) (by simp)
        have APB : ∀ (u : World) (ty : TypeId) (B : Nat), (Builtin.append_ #[87, 87] ty #[.slice (some ⟨B, 0, none⟩) 0 0, .slice a 0 cap]).run Try.prog u = .ok (.slice (some ⟨B, 0, none⟩) 0 0) u := fun u ty B =>
          run_append_nothing u 87 87 ty 97 iB Try.underlying87 hiB (some ⟨B, 0, none⟩) 0 0 (by omega) _ (hsB u)
        have hsR : ∀ u : World, Src Try.prog iR.size 88 (.slice a2 0 cap2) 0 [] u := fun u => by
          cases a2 with
          | none => exact Src.ofNil u Try.underlying88 cap2
          | some x => exact Src.ofSlice u Try.underlying88 x 0 cap2 [] (by simp) (by simp) (by simp)
        have APR : ∀ (u : World) (ty : TypeId) (B : Nat), (Builtin.append_ #[88, 88] ty #[.slice (some ⟨B, 0, none⟩) 0 0, .slice a2 0 cap2]).run Try.prog u = .ok (.slice (some ⟨B, 0, none⟩) 0 0) u := fun u ty B =>
          run_append_nothing u 88 88 ty 90 iR Try.underlying88 hiR (some ⟨B, 0, none⟩) 0 0 (by omega) _ (hsR u)
        go_wp2_with (first | (at_builtin; refine wpList_nothing rfl _ _ _ _ rfl _ _ rfl rfl (APB _ _ _) ?_) | (at_builtin; refine wpList_nothing rfl _ _ _ _ rfl _ _ rfl rfl (APR _ _ _) ?_))
        refine (CB.out _ _ _ _ _ _ _ (by simp [*]) (by simp [*]) (.inl rfl) (.inl rfl)).mono ?_
        rintro e w5 ⟨rfl, h5⟩
        have B5 : Below w.heap.size w w5 := below_via (by (repeat' (first | (with_reducible exact Below.refl _ _) | (with_reducible assumption) | (with_reducible refine Below.drew ?_) | (with_reducible refine below_drewN ?_ _) | (with_reducible refine Below.setCell ?_ ?_ _) | (with_reducible refine Below.alloc ?_ ?_ _) | go_size | omega))) h5
        have z5 := B5.size
        go_wp2_with fail
        go_meet
        exact ⟨_, rfl, rfl, Box.new _ _ _ rfl, by (repeat' (first | (with_reducible exact Below.refl _ _) | (with_reducible assumption) | (with_reducible refine Below.drew ?_) | (with_reducible refine below_drewN ?_ _) | (with_reducible refine Below.setCell ?_ ?_ _) | (with_reducible refine Below.alloc ?_ ?_ _) | go_size | omega))⟩
      · subst hl0
        have hsB : ∀ u : World, Src Try.prog iB.size 87 (.slice a 0 cap) 0 [] u := fun u => by
          cases a with
          | none => exact Src.ofNil u Try.underlying87 cap
          | some x => exact Src.ofSlice u Try.underlying87 x 0 cap [] (by simp) (by simp) (by simp)
        have APB : ∀ (u : World) (ty : TypeId) (B : Nat), (Builtin.append_ #[87, 87] ty #[.slice (some ⟨B, 0, none⟩) 0 0, .slice a 0 cap]).run Try.prog u = .ok (.slice (some ⟨B, 0, none⟩) 0 0) u := fun u ty B =>
          run_append_nothing u 87 87 ty 97 iB Try.underlying87 hiB (some ⟨B, 0, none⟩) 0 0 (by omega) _ (hsB u)
        obtain ⟨b1, o1, rfl, hb1, hc1⟩ : ∃ b o, a2 = some ⟨b, o, none⟩ ∧ b < w1.heap.size ∧ LoadsAt w1 b o P := by
          rcases HQ.out.keep B1 with h | h
          · exact absurd h hp0
          · exact h
        have hnP : 0 < P.length := List.length_pos_iff.2 hp0
        have HCR : Hid (∀ (v : World), Below w1.heap.size w1 v → ∀ j u, (ldc P)[j]? = some u → (v.alloc (.cells #[] 90)).cell? ((⟨b1, o1, none⟩ : Addr).add j) = some u) := Lib.hid fun v hv j u hu => by
          have h := ldc_cells (hc1.below hv hb1) j u hu
          rw [addr_add] at h ⊢
          exact (World.cell?_alloc_past _ _ _ (Nat.lt_of_lt_of_le hb1 hv.size)).trans h
        clear hc1
        go_wp2_with (first | (at_builtin; refine wpList_nothing rfl _ _ _ _ rfl _ _ rfl rfl (APB _ _ _) ?_) | (at_builtin; refine wpList_append_grows _ rfl _ _ 88 rfl 90 iR _ 2 16 Try.underlying88 hiR hzR0 hzR1 hzR2 rfl (by omega) (some ⟨w1.heap.size + 1, 0, none⟩) 0 0 [] rfl (by intro e; cases e) rfl (by intro _ _ j u hu; simp at hu) ⟨b1, o1, none⟩ P.length cap2 (ldc P) rfl (ldc_len P) (HCR.out _ (by (repeat' (first | (with_reducible exact Below.refl _ _) | (with_reducible assumption) | (with_reducible refine Below.drew ?_) | (with_reducible refine below_drewN ?_ _) | (with_reducible refine Below.setCell ?_ ?_ _) | (with_reducible refine Below.alloc ?_ ?_ _) | go_size | omega)))) (ldc_one P) (by omega) (by unfold maxLen; omega) (by omega) ?_; intro v'' w4 hown4 hgrow4; obtain ⟨g4, c4, rfl, hg04, hg14⟩ := hown4.form (by omega); have BW4 : Below (w1.alloc (.cells #[] 97)).heap.size (w1.alloc (.cells #[] 97)) w4 := Below.grown (by (repeat' (first | (with_reducible exact Below.refl _ _) | (with_reducible assumption) | (with_reducible refine Below.drew ?_) | (with_reducible refine below_drewN ?_ _) | (with_reducible refine Below.setCell ?_ ?_ _) | (with_reducible refine Below.alloc ?_ ?_ _) | go_size | omega))) hgrow4 (by simp) (fun k e => by cases e); have QR := Lib.hid (show LdAt w4 (some ⟨g4, 0, none⟩) P from .inr ⟨g4, 0, rfl, hg14, rgsAt_row (by simpa using hown4)⟩); have z4 := BW4.size; have B4 : Below w.heap.size w w4 := below_via (by (repeat' (first | (with_reducible exact Below.refl _ _) | (with_reducible assumption) | (with_reducible refine Below.drew ?_) | (with_reducible refine below_drewN ?_ _) | (with_reducible refine Below.setCell ?_ ?_ _) | (with_reducible refine Below.alloc ?_ ?_ _) | go_size | omega))) BW4; clear hown4 hgrow4 hg04 hg14))
        refine (CB.out _ _ _ _ _ _ _ (by simp [*]) (by simp [*]) (.inl rfl) QR.out).mono ?_
        rintro e w5 ⟨rfl, h5⟩
        have B5 : Below w.heap.size w w5 := below_via (by (repeat' (first | (with_reducible exact Below.refl _ _) | (with_reducible assumption) | (with_reducible refine Below.drew ?_) | (with_reducible refine below_drewN ?_ _) | (with_reducible refine Below.setCell ?_ ?_ _) | (with_reducible refine Below.alloc ?_ ?_ _) | go_size | omega))) h5
        have z5 := B5.size
        go_wp2_with fail
        go_meet
        exact ⟨_, rfl, rfl, Box.new _ _ _ rfl, by (repeat' (first | (with_reducible exact Below.refl _ _) | (with_reducible assumption) | (with_reducible refine Below.drew ?_) | (with_reducible refine below_drewN ?_ _) | (with_reducible refine Below.setCell ?_ ?_ _) | (with_reducible refine Below.alloc ?_ ?_ _) | go_size | omega))⟩
    · by_cases hp0 : P = []
      · subst hp0
        obtain ⟨b0, o0, rfl, hb0, hc0⟩ : ∃ b o, a = some ⟨b, o, none⟩ ∧ b < w1.heap.size ∧ BrsAt w1 b o l := by
          rcases HP.out.keep B1 with h | h
          · exact absurd h hl0
          · exact h
        have hnB : 0 < l.length := List.length_pos_iff.2 hl0
        have HCB : Hid (∀ j u, (brc l)[j]? = some u → (w1.alloc (.cells #[] 97)).cell? ((⟨b0, o0, none⟩ : Addr).add j) = some u) := Lib.hid fun j u hu => by
          have h := brc_cells hc0 j u hu
          rw [addr_add] at h ⊢
          exact (World.cell?_alloc_past _ _ _ hb0).trans h
        clear hc0
        have hsR : ∀ u : World, Src Try.prog iR.size 88 (.slice a2 0 cap2) 0 [] u := fun u => by
          cases a2 with
          | none => exact Src.ofNil u Try.underlying88 cap2
          | some x => exact Src.ofSlice u Try.underlying88 x 0 cap2 [] (by simp) (by simp) (by simp)
        have APR : ∀ (u : World) (ty : TypeId) (B : Nat), (Builtin.append_ #[88, 88] ty #[.slice (some ⟨B, 0, none⟩) 0 0, .slice a2 0 cap2]).run Try.prog u = .ok (.slice (some ⟨B, 0, none⟩) 0 0) u := fun u ty B =>
          run_append_nothing u 88 88 ty 90 iR Try.underlying88 hiR (some ⟨B, 0, none⟩) 0 0 (by omega) _ (hsR u)
        go_wp2_with (first | (at_builtin; refine wpList_append_grows _ rfl _ _ 87 rfl 97 iB _ 5 40 Try.underlying87 hiB hzB0 hzB1 hzB2 rfl (by omega) (some ⟨w1.heap.size, 0, none⟩) 0 0 [] rfl (by intro e; cases e) rfl (by intro _ _ j u hu; simp at hu) ⟨b0, o0, none⟩ l.length cap (brc l) rfl (brc_len l) HCB.out (brc_one l) (by omega) (by unfold maxLen; omega) (by omega) ?_; intro v' w3 hown hgrow; obtain ⟨g, c', rfl, hg0, hg1⟩ := hown.form (by omega); have BW3 : Below w1.heap.size w1 w3 := Below.grown (by (repeat' (first | (with_reducible exact Below.refl _ _) | (with_reducible assumption) | (with_reducible refine Below.drew ?_) | (with_reducible refine below_drewN ?_ _) | (with_reducible refine Below.setCell ?_ ?_ _) | (with_reducible refine Below.alloc ?_ ?_ _) | go_size | omega))) hgrow (by simp) (fun k e => by cases e); have QB := Lib.hid (show BrAt w3 (some ⟨g, 0, none⟩) l from .inr ⟨g, 0, rfl, hg1, brsAt_row (by simpa using hown)⟩); have z3 := BW3.size; have B3 : Below w.heap.size w w3 := below_via B1 BW3; clear hown hgrow hg0 hg1) | (at_builtin; refine wpList_nothing rfl _ _ _ _ rfl _ _ rfl rfl (APR _ _ _) ?_))
        refine (CB.out _ _ _ _ _ _ _ (by simp [*]) (by simp [*]) (QB.out.keep (by (repeat' (first | (with_reducible exact Below.refl _ _) | (with_reducible assumption) | (with_reducible refine Below.drew ?_) | (with_reducible refine below_drewN ?_ _) | (with_reducible refine Below.setCell ?_ ?_ _) | (with_reducible refine Below.alloc ?_ ?_ _) | go_size | omega)))) (.inl rfl)).mono ?_
        rintro e w5 ⟨rfl, h5⟩
        have B5 : Below w.heap.size w w5 := below_via (by (repeat' (first | (with_reducible exact Below.refl _ _) | (with_reducible assumption) | (with_reducible refine Below.drew ?_) | (with_reducible refine below_drewN ?_ _) | (with_reducible refine Below.setCell ?_ ?_ _) | (with_reducible refine Below.alloc ?_ ?_ _) | go_size | omega))) h5
        have z5 := B5.size
        go_wp2_with fail
        go_meet
        exact ⟨_, rfl, rfl, Box.new _ _ _ rfl, by (repeat' (first | (with_reducible exact Below.refl _ _) | (with_reducible assumption) | (with_reducible refine Below.drew ?_) | (with_reducible refine below_drewN ?_ _) | (with_reducible refine Below.setCell ?_ ?_ _) | (with_reducible refine Below.alloc ?_ ?_ _) | go_size | omega))⟩
      · obtain ⟨b0, o0, rfl, hb0, hc0⟩ : ∃ b o, a = some ⟨b, o, none⟩ ∧ b < w1.heap.size ∧ BrsAt w1 b o l := by
          rcases HP.out.keep B1 with h | h
          · exact absurd h hl0
          · exact h
        have hnB : 0 < l.length := List.length_pos_iff.2 hl0
        have HCB : Hid (∀ j u, (brc l)[j]? = some u → (w1.alloc (.cells #[] 97)).cell? ((⟨b0, o0, none⟩ : Addr).add j) = some u) := Lib.hid fun j u hu => by
          have h := brc_cells hc0 j u hu
          rw [addr_add] at h ⊢
          exact (World.cell?_alloc_past _ _ _ hb0).trans h
        clear hc0
        obtain ⟨b1, o1, rfl, hb1, hc1⟩ : ∃ b o, a2 = some ⟨b, o, none⟩ ∧ b < w1.heap.size ∧ LoadsAt w1 b o P := by
          rcases HQ.out.keep B1 with h | h
          · exact absurd h hp0
          · exact h
        have hnP : 0 < P.length := List.length_pos_iff.2 hp0
        have HCR : Hid (∀ (v : World), Below w1.heap.size w1 v → ∀ j u, (ldc P)[j]? = some u → (v.alloc (.cells #[] 90)).cell? ((⟨b1, o1, none⟩ : Addr).add j) = some u) := Lib.hid fun v hv j u hu => by
          have h := ldc_cells (hc1.below hv hb1) j u hu
          rw [addr_add] at h ⊢
          exact (World.cell?_alloc_past _ _ _ (Nat.lt_of_lt_of_le hb1 hv.size)).trans h
        clear hc1
        go_wp2_with (first | (at_builtin; refine wpList_append_grows _ rfl _ _ 87 rfl 97 iB _ 5 40 Try.underlying87 hiB hzB0 hzB1 hzB2 rfl (by omega) (some ⟨w1.heap.size, 0, none⟩) 0 0 [] rfl (by intro e; cases e) rfl (by intro _ _ j u hu; simp at hu) ⟨b0, o0, none⟩ l.length cap (brc l) rfl (brc_len l) HCB.out (brc_one l) (by omega) (by unfold maxLen; omega) (by omega) ?_; intro v' w3 hown hgrow; obtain ⟨g, c', rfl, hg0, hg1⟩ := hown.form (by omega); have BW3 : Below w1.heap.size w1 w3 := Below.grown (by (repeat' (first | (with_reducible exact Below.refl _ _) | (with_reducible assumption) | (with_reducible refine Below.drew ?_) | (with_reducible refine below_drewN ?_ _) | (with_reducible refine Below.setCell ?_ ?_ _) | (with_reducible refine Below.alloc ?_ ?_ _) | go_size | omega))) hgrow (by simp) (fun k e => by cases e); have QB := Lib.hid (show BrAt w3 (some ⟨g, 0, none⟩) l from .inr ⟨g, 0, rfl, hg1, brsAt_row (by simpa using hown)⟩); have z3 := BW3.size; have B3 : Below w.heap.size w w3 := below_via B1 BW3; clear hown hgrow hg0 hg1) | (at_builtin; refine wpList_append_grows _ rfl _ _ 88 rfl 90 iR _ 2 16 Try.underlying88 hiR hzR0 hzR1 hzR2 rfl (by omega) (some ⟨w3.heap.size, 0, none⟩) 0 0 [] rfl (by intro e; cases e) rfl (by intro _ _ j u hu; simp at hu) ⟨b1, o1, none⟩ P.length cap2 (ldc P) rfl (ldc_len P) (HCR.out _ BW3) (ldc_one P) (by omega) (by unfold maxLen; omega) (by omega) ?_; intro v'' w4 hown4 hgrow4; obtain ⟨g4, c4, rfl, hg04, hg14⟩ := hown4.form (by omega); have BW4 : Below w3.heap.size w3 w4 := Below.grown (by (repeat' (first | (with_reducible exact Below.refl _ _) | (with_reducible assumption) | (with_reducible refine Below.drew ?_) | (with_reducible refine below_drewN ?_ _) | (with_reducible refine Below.setCell ?_ ?_ _) | (with_reducible refine Below.alloc ?_ ?_ _) | go_size | omega))) hgrow4 (by simp) (fun k e => by cases e); have QR := Lib.hid (show LdAt w4 (some ⟨g4, 0, none⟩) P from .inr ⟨g4, 0, rfl, hg14, rgsAt_row (by simpa using hown4)⟩); have z4 := BW4.size; have B4 : Below w.heap.size w w4 := below_via (by (repeat' (first | (with_reducible exact Below.refl _ _) | (with_reducible assumption) | (with_reducible refine Below.drew ?_) | (with_reducible refine below_drewN ?_ _) | (with_reducible refine Below.setCell ?_ ?_ _) | (with_reducible refine Below.alloc ?_ ?_ _) | go_size | omega))) BW4; clear hown4 hgrow4 hg04 hg14))
        refine (CB.out _ _ _ _ _ _ _ (by simp [*]) (by simp [*]) (QB.out.keep BW4) QR.out).mono ?_
        rintro e w5 ⟨rfl, h5⟩
        have B5 : Below w.heap.size w w5 := below_via (by (repeat' (first | (with_reducible exact Below.refl _ _) | (with_reducible assumption) | (with_reducible refine Below.drew ?_) | (with_reducible refine below_drewN ?_ _) | (with_reducible refine Below.setCell ?_ ?_ _) | (with_reducible refine Below.alloc ?_ ?_ _) | go_size | omega))) h5
        have z5 := B5.size
        go_wp2_with fail
        go_meet
        exact ⟨_, rfl, rfl, Box.new _ _ _ rfl, by (repeat' (first | (with_reducible exact Below.refl _ _) | (with_reducible assumption) | (with_reducible refine Below.drew ?_) | (with_reducible refine below_drewN ?_ _) | (with_reducible refine Below.setCell ?_ ?_ _) | (with_reducible refine Below.alloc ?_ ?_ _) | go_size | omega))⟩
  obtain ⟨nb, rfl, rfl, hnb, B5⟩ := hcut
  obtain ⟨w5, rfl⟩ : ∃ x : World, x = wc := ⟨_, rfl⟩
  have X5 := Lib.hid hnb
  have z5 := B5.size
  clear hnb hiB hiR hzB0 hzB1 hzB2 hzR0 hzR1 hzR2
  go_wp2_with fail
  refine (CR.out _ (HP.out.keep B5) (HQ.out.keep B5)).mono ?_
  rintro e w6 ⟨rfl, h⟩
  have B6 : Below w.heap.size w w6 := below_via B5 h
  have X6 := Lib.hid ((X5.out.keep h).alloc (.cells #[.int .i64 V0, .int .i64 V1] 90))
  have z6 := h.size
  clear h X5 CR
  have hbE : (E == 0) = false := by simpa using hne
  obtain ⟨x0, x1, -⟩ := X6.out.two
  have lx := X6.out.lt
  go_wp2_with fail
  go_ret
  exact ⟨rfl, by (repeat' (first | (with_reducible exact Below.refl _ _) | (with_reducible assumption) | (with_reducible refine Below.drew ?_) | (with_reducible refine below_drewN ?_ _) | (with_reducible refine Below.setCell ?_ ?_ _) | (with_reducible refine Below.alloc ?_ ?_ _) | go_size | omega))⟩
set_option maxRecDepth 100000 in
set_option maxHeartbeats 3200000 in
theorem bridges_B2 (V0 V1 E : Int) (l : List Br) (P : List (Int × Int)) (a a2 : Option Addr) (cap cap2 : Nat) (w : World) (hl : l.length ≤ 9223372036854775807) (hl2 : P.length ≤ 9223372036854775807) (h1 : (300 : Int) < l.length) (h3 : P.length ≤ 305) (h4 : l.length ≤ 305) (hp : BrAt w a l) (hq : LdAt w a2 P) (hne : E ≠ 0) (iE : IntKind.i64.wrap E = E)
    (CB : Hid (∀ (n n2 : Nat) (a a2 : Option Addr) (cap cap2 : Nat) (u : World), n = l.length → n2 = P.length → BrAt u a l → LdAt u a2 P → Calls Try.prog 55 #[.slice a n cap, .slice a2 n2 cap2] u fun e w' => e = .returned (.tuple #[rng V0 V1, .int .i64 E]) ∧ Below u.heap.size u w'))
    (CR : Hid (∀ (u : World), BrAt u a l → LdAt u a2 P → Calls Try.prog 56 #[.slice a l.length cap, .slice a2 P.length cap2] u fun e w' => e = .returned (.tuple #[rng V0 V1, .int .i64 E]) ∧ Below u.heap.size u w')) :
    Calls Try.prog 12 #[.slice a l.length cap, .slice a2 P.length cap2] w fun e w' => e = .returned (.bool true) ∧ Below w.heap.size w w' := by
  obtain ⟨iB, hiB, hzB0, hzB1, hzB2⟩ := info_parts infoB
  obtain ⟨iR, hiR, hzR0, hzR1, hzR2⟩ := info_parts infoR
  have AW := Lib.hid (fun u => awake3_any u)
  have HP := Lib.hid hp; have HQ := Lib.hid hq
  clear hp hq
  go_enter Try.func12, Try.ntmps12
  go_wp2_with fail
  refine (AW.out _).mono ?_
  rintro e w1 ⟨rfl, h⟩
  have B1 : Below w.heap.size w w1 := below_via (by (repeat' (first | (with_reducible exact Below.refl _ _) | (with_reducible assumption) | (with_reducible refine Below.drew ?_) | (with_reducible refine below_drewN ?_ _) | (with_reducible refine Below.setCell ?_ ?_ _) | (with_reducible refine Below.alloc ?_ ?_ _) | go_size | omega))) h
  have z1 := h.size
  clear h AW
  go_upto_region 5 with fail
  go_cut [5, 6] (fun s5 s6 wx => ∃ nb : Nat, s5 = .pointer (some ⟨nb, 0, none⟩) ∧ s6 = .int .i64 E ∧ Box wx nb #[.int .i64 V0, .int .i64 V1] 90 ∧ Below w.heap.size w wx)
  case first =>
    by_cases hl0 : l = []
    · by_cases hp0 : P = []
      · subst hl0; subst hp0
        have hsB : ∀ u : World, Src Try.prog iB.size 87 (.slice a 0 cap) 0 [] u := fun u => by
          cases a with
          | none => exact Src.ofNil u Try.underlying87 cap
          | some x => exact Src.ofSlice u Try.underlying87 x 0 cap [] (by simp) (by simp) (by simp)
        have APB : ∀ (u : World) (ty : TypeId) (B : Nat), (Builtin.append_ #[87, 87] ty #[.slice (some ⟨B, 0, none⟩) 0 0, .slice a 0 cap]).run Try.prog u = .ok (.slice (some ⟨B, 0, none⟩) 0 0) u := fun u ty B =>
          run_append_nothing u 87 87 ty 97 iB Try.underlying87 hiB (some ⟨B, 0, none⟩) 0 0 (by omega) _ (hsB u)
        have hsR : ∀ u : World, Src Try.prog iR.size 88 (.slice a2 0 cap2) 0 [] u := fun u => by
          cases a2 with
          | none => exact Src.ofNil u Try.underlying88 cap2
          | some x => exact Src.ofSlice u Try.underlying88 x 0 cap2 [] (by simp) (by simp) (by simp)
        have APR : ∀ (u : World) (ty : TypeId) (B : Nat), (Builtin.append_ #[88, 88] ty #[.slice (some ⟨B, 0, none⟩) 0 0, .slice a2 0 cap2]).run Try.prog u = .ok (.slice (some ⟨B, 0, none⟩) 0 0) u := fun u ty B =>
          run_append_nothing u 88 88 ty 90 iR Try.underlying88 hiR (some ⟨B, 0, none⟩) 0 0 (by omega) _ (hsR u)
        go_wp2_with (first | (at_builtin; refine wpList_nothing rfl _ _ _ _ rfl _ _ rfl rfl (APB _ _ _) ?_) | (at_builtin; refine wpList_nothing rfl _ _ _ _ rfl _ _ rfl rfl (APR _ _ _) ?_))
        refine (CB.out _ _ _ _ _ _ _ (by simp [*]) (by simp [*]) (.inl rfl) (.inl rfl)).mono ?_
        rintro e w5 ⟨rfl, h5⟩
        have B5 : Below w.heap.size w w5 := below_via (by (repeat' (first | (with_reducible exact Below.refl _ _) | (with_reducible assumption) | (with_reducible refine Below.drew ?_) | (with_reducible refine below_drewN ?_ _) | (with_reducible refine Below.setCell ?_ ?_ _) | (with_reducible refine Below.alloc ?_ ?_ _) | go_size | omega))) h5
        have z5 := B5.size
        go_wp2_with fail
        go_meet
        exact ⟨_, rfl, rfl, Box.new _ _ _ rfl, by (repeat' (first | (with_reducible exact Below.refl _ _) | (with_reducible assumption) | (with_reducible refine Below.drew ?_) | (with_reducible refine below_drewN ?_ _) | (with_reducible refine Below.setCell ?_ ?_ _) | (with_reducible refine Below.alloc ?_ ?_ _) | go_size | omega))⟩
      · subst hl0
        have hsB : ∀ u : World, Src Try.prog iB.size 87 (.slice a 0 cap) 0 [] u := fun u => by
          cases a with
          | none => exact Src.ofNil u Try.underlying87 cap
          | some x => exact Src.ofSlice u Try.underlying87 x 0 cap [] (by simp) (by simp) (by simp)
        have APB : ∀ (u : World) (ty : TypeId) (B : Nat), (Builtin.append_ #[87, 87] ty #[.slice (some ⟨B, 0, none⟩) 0 0, .slice a 0 cap]).run Try.prog u = .ok (.slice (some ⟨B, 0, none⟩) 0 0) u := fun u ty B =>
          run_append_nothing u 87 87 ty 97 iB Try.underlying87 hiB (some ⟨B, 0, none⟩) 0 0 (by omega) _ (hsB u)
        obtain ⟨b1, o1, rfl, hb1, hc1⟩ : ∃ b o, a2 = some ⟨b, o, none⟩ ∧ b < w1.heap.size ∧ LoadsAt w1 b o P := by
          rcases HQ.out.keep B1 with h | h
          · exact absurd h hp0
          · exact h
        have hnP : 0 < P.length := List.length_pos_iff.2 hp0
        have HCR : Hid (∀ (v : World), Below w1.heap.size w1 v → ∀ j u, (ldc P)[j]? = some u → (v.alloc (.cells #[] 90)).cell? ((⟨b1, o1, none⟩ : Addr).add j) = some u) := Lib.hid fun v hv j u hu => by
          have h := ldc_cells (hc1.below hv hb1) j u hu
          rw [addr_add] at h ⊢
          exact (World.cell?_alloc_past _ _ _ (Nat.lt_of_lt_of_le hb1 hv.size)).trans h
        clear hc1
        go_wp2_with (first | (at_builtin; refine wpList_nothing rfl _ _ _ _ rfl _ _ rfl rfl (APB _ _ _) ?_) | (at_builtin; refine wpList_append_grows _ rfl _ _ 88 rfl 90 iR _ 2 16 Try.underlying88 hiR hzR0 hzR1 hzR2 rfl (by omega) (some ⟨w1.heap.size + 1, 0, none⟩) 0 0 [] rfl (by intro e; cases e) rfl (by intro _ _ j u hu; simp at hu) ⟨b1, o1, none⟩ P.length cap2 (ldc P) rfl (ldc_len P) (HCR.out _ (by (repeat' (first | (with_reducible exact Below.refl _ _) | (with_reducible assumption) | (with_reducible refine Below.drew ?_) | (with_reducible refine below_drewN ?_ _) | (with_reducible refine Below.setCell ?_ ?_ _) | (with_reducible refine Below.alloc ?_ ?_ _) | go_size | omega)))) (ldc_one P) (by omega) (by unfold maxLen; omega) (by omega) ?_; intro v'' w4 hown4 hgrow4; obtain ⟨g4, c4, rfl, hg04, hg14⟩ := hown4.form (by omega); have BW4 : Below (w1.alloc (.cells #[] 97)).heap.size (w1.alloc (.cells #[] 97)) w4 := Below.grown (by (repeat' (first | (with_reducible exact Below.refl _ _) | (with_reducible assumption) | (with_reducible refine Below.drew ?_) | (with_reducible refine below_drewN ?_ _) | (with_reducible refine Below.setCell ?_ ?_ _) | (with_reducible refine Below.alloc ?_ ?_ _) | go_size | omega))) hgrow4 (by simp) (fun k e => by cases e); have QR := Lib.hid (show LdAt w4 (some ⟨g4, 0, none⟩) P from .inr ⟨g4, 0, rfl, hg14, rgsAt_row (by simpa using hown4)⟩); have z4 := BW4.size; have B4 : Below w.heap.size w w4 := below_via (by (repeat' (first | (with_reducible exact Below.refl _ _) | (with_reducible assumption) | (with_reducible refine Below.drew ?_) | (with_reducible refine below_drewN ?_ _) | (with_reducible refine Below.setCell ?_ ?_ _) | (with_reducible refine Below.alloc ?_ ?_ _) | go_size | omega))) BW4; clear hown4 hgrow4 hg04 hg14))
        refine (CB.out _ _ _ _ _ _ _ (by simp [*]) (by simp [*]) (.inl rfl) QR.out).mono ?_
        rintro e w5 ⟨rfl, h5⟩
        have B5 : Below w.heap.size w w5 := below_via (by (repeat' (first | (with_reducible exact Below.refl _ _) | (with_reducible assumption) | (with_reducible refine Below.drew ?_) | (with_reducible refine below_drewN ?_ _) | (with_reducible refine Below.setCell ?_ ?_ _) | (with_reducible refine Below.alloc ?_ ?_ _) | go_size | omega))) h5
        have z5 := B5.size
        go_wp2_with fail
        go_meet
        exact ⟨_, rfl, rfl, Box.new _ _ _ rfl, by (repeat' (first | (with_reducible exact Below.refl _ _) | (with_reducible assumption) | (with_reducible refine Below.drew ?_) | (with_reducible refine below_drewN ?_ _) | (with_reducible refine Below.setCell ?_ ?_ _) | (with_reducible refine Below.alloc ?_ ?_ _) | go_size | omega))⟩
    · by_cases hp0 : P = []
      · subst hp0
        obtain ⟨b0, o0, rfl, hb0, hc0⟩ : ∃ b o, a = some ⟨b, o, none⟩ ∧ b < w1.heap.size ∧ BrsAt w1 b o l := by
          rcases HP.out.keep B1 with h | h
          · exact absurd h hl0
          · exact h
        have hnB : 0 < l.length := List.length_pos_iff.2 hl0
        have HCB : Hid (∀ j u, (brc l)[j]? = some u → (w1.alloc (.cells #[] 97)).cell? ((⟨b0, o0, none⟩ : Addr).add j) = some u) := Lib.hid fun j u hu => by
          have h := brc_cells hc0 j u hu
          rw [addr_add] at h ⊢
          exact (World.cell?_alloc_past _ _ _ hb0).trans h
        clear hc0
        have hsR : ∀ u : World, Src Try.prog iR.size 88 (.slice a2 0 cap2) 0 [] u := fun u => by
          cases a2 with
          | none => exact Src.ofNil u Try.underlying88 cap2
          | some x => exact Src.ofSlice u Try.underlying88 x 0 cap2 [] (by simp) (by simp) (by simp)
        have APR : ∀ (u : World) (ty : TypeId) (B : Nat), (Builtin.append_ #[88, 88] ty #[.slice (some ⟨B, 0, none⟩) 0 0, .slice a2 0 cap2]).run Try.prog u = .ok (.slice (some ⟨B, 0, none⟩) 0 0) u := fun u ty B =>
          run_append_nothing u 88 88 ty 90 iR Try.underlying88 hiR (some ⟨B, 0, none⟩) 0 0 (by omega) _ (hsR u)
        go_wp2_with (first | (at_builtin; refine wpList_append_grows _ rfl _ _ 87 rfl 97 iB _ 5 40 Try.underlying87 hiB hzB0 hzB1 hzB2 rfl (by omega) (some ⟨w1.heap.size, 0, none⟩) 0 0 [] rfl (by intro e; cases e) rfl (by intro _ _ j u hu; simp at hu) ⟨b0, o0, none⟩ l.length cap (brc l) rfl (brc_len l) HCB.out (brc_one l) (by omega) (by unfold maxLen; omega) (by omega) ?_; intro v' w3 hown hgrow; obtain ⟨g, c', rfl, hg0, hg1⟩ := hown.form (by omega); have BW3 : Below w1.heap.size w1 w3 := Below.grown (by (repeat' (first | (with_reducible exact Below.refl _ _) | (with_reducible assumption) | (with_reducible refine Below.drew ?_) | (with_reducible refine below_drewN ?_ _) | (with_reducible refine Below.setCell ?_ ?_ _) | (with_reducible refine Below.alloc ?_ ?_ _) | go_size | omega))) hgrow (by simp) (fun k e => by cases e); have QB := Lib.hid (show BrAt w3 (some ⟨g, 0, none⟩) l from .inr ⟨g, 0, rfl, hg1, brsAt_row (by simpa using hown)⟩); have z3 := BW3.size; have B3 : Below w.heap.size w w3 := below_via B1 BW3; clear hown hgrow hg0 hg1) | (at_builtin; refine wpList_nothing rfl _ _ _ _ rfl _ _ rfl rfl (APR _ _ _) ?_))
        refine (CB.out _ _ _ _ _ _ _ (by simp [*]) (by simp [*]) (QB.out.keep (by (repeat' (first | (with_reducible exact Below.refl _ _) | (with_reducible assumption) | (with_reducible refine Below.drew ?_) | (with_reducible refine below_drewN ?_ _) | (with_reducible refine Below.setCell ?_ ?_ _) | (with_reducible refine Below.alloc ?_ ?_ _) | go_size | omega)))) (.inl rfl)).mono ?_
        rintro e w5 ⟨rfl, h5⟩
        have B5 : Below w.heap.size w w5 := below_via (by (repeat' (first | (with_reducible exact Below.refl _ _) | (with_reducible assumption) | (with_reducible refine Below.drew ?_) | (with_reducible refine below_drewN ?_ _) | (with_reducible refine Below.setCell ?_ ?_ _) | (with_reducible refine Below.alloc ?_ ?_ _) | go_size | omega))) h5
        have z5 := B5.size
        go_wp2_with fail
        go_meet
        exact ⟨_, rfl, rfl, Box.new _ _ _ rfl, by (repeat' (first | (with_reducible exact Below.refl _ _) | (with_reducible assumption) | (with_reducible refine Below.drew ?_) | (with_reducible refine below_drewN ?_ _) | (with_reducible refine Below.setCell ?_ ?_ _) | (with_reducible refine Below.alloc ?_ ?_ _) | go_size | omega))⟩
      · obtain ⟨b0, o0, rfl, hb0, hc0⟩ : ∃ b o, a = some ⟨b, o, none⟩ ∧ b < w1.heap.size ∧ BrsAt w1 b o l := by
          rcases HP.out.keep B1 with h | h
          · exact absurd h hl0
          · exact h
        have hnB : 0 < l.length := List.length_pos_iff.2 hl0
        have HCB : Hid (∀ j u, (brc l)[j]? = some u → (w1.alloc (.cells #[] 97)).cell? ((⟨b0, o0, none⟩ : Addr).add j) = some u) := Lib.hid fun j u hu => by
          have h := brc_cells hc0 j u hu
          rw [addr_add] at h ⊢
          exact (World.cell?_alloc_past _ _ _ hb0).trans h
        clear hc0
        obtain ⟨b1, o1, rfl, hb1, hc1⟩ : ∃ b o, a2 = some ⟨b, o, none⟩ ∧ b < w1.heap.size ∧ LoadsAt w1 b o P := by
          rcases HQ.out.keep B1 with h | h
          · exact absurd h hp0
          · exact h
        have hnP : 0 < P.length := List.length_pos_iff.2 hp0
        have HCR : Hid (∀ (v : World), Below w1.heap.size w1 v → ∀ j u, (ldc P)[j]? = some u → (v.alloc (.cells #[] 90)).cell? ((⟨b1, o1, none⟩ : Addr).add j) = some u) := Lib.hid fun v hv j u hu => by
          have h := ldc_cells (hc1.below hv hb1) j u hu
          rw [addr_add] at h ⊢
          exact (World.cell?_alloc_past _ _ _ (Nat.lt_of_lt_of_le hb1 hv.size)).trans h
        clear hc1
        go_wp2_with (first | (at_builtin; refine wpList_append_grows _ rfl _ _ 87 rfl 97 iB _ 5 40 Try.underlying87 hiB hzB0 hzB1 hzB2 rfl (by omega) (some ⟨w1.heap.size, 0, none⟩) 0 0 [] rfl (by intro e; cases e) rfl (by intro _ _ j u hu; simp at hu) ⟨b0, o0, none⟩ l.length cap (brc l) rfl (brc_len l) HCB.out (brc_one l) (by omega) (by unfold maxLen; omega) (by omega) ?_; intro v' w3 hown hgrow; obtain ⟨g, c', rfl, hg0, hg1⟩ := hown.form (by omega); have BW3 : Below w1.heap.size w1 w3 := Below.grown (by (repeat' (first | (with_reducible exact Below.refl _ _) | (with_reducible assumption) | (with_reducible refine Below.drew ?_) | (with_reducible refine below_drewN ?_ _) | (with_reducible refine Below.setCell ?_ ?_ _) | (with_reducible refine Below.alloc ?_ ?_ _) | go_size | omega))) hgrow (by simp) (fun k e => by cases e); have QB := Lib.hid (show BrAt w3 (some ⟨g, 0, none⟩) l from .inr ⟨g, 0, rfl, hg1, brsAt_row (by simpa using hown)⟩); have z3 := BW3.size; have B3 : Below w.heap.size w w3 := below_via B1 BW3; clear hown hgrow hg0 hg1) | (at_builtin; refine wpList_append_grows _ rfl _ _ 88 rfl 90 iR _ 2 16 Try.underlying88 hiR hzR0 hzR1 hzR2 rfl (by omega) (some ⟨w3.heap.size, 0, none⟩) 0 0 [] rfl (by intro e; cases e) rfl (by intro _ _ j u hu; simp at hu) ⟨b1, o1, none⟩ P.length cap2 (ldc P) rfl (ldc_len P) (HCR.out _ BW3) (ldc_one P) (by omega) (by unfold maxLen; omega) (by omega) ?_; intro v'' w4 hown4 hgrow4; obtain ⟨g4, c4, rfl, hg04, hg14⟩ := hown4.form (by omega); have BW4 : Below w3.heap.size w3 w4 := Below.grown (by (repeat' (first | (with_reducible exact Below.refl _ _) | (with_reducible assumption) | (with_reducible refine Below.drew ?_) | (with_reducible refine below_drewN ?_ _) | (with_reducible refine Below.setCell ?_ ?_ _) | (with_reducible refine Below.alloc ?_ ?_ _) | go_size | omega))) hgrow4 (by simp) (fun k e => by cases e); have QR := Lib.hid (show LdAt w4 (some ⟨g4, 0, none⟩) P from .inr ⟨g4, 0, rfl, hg14, rgsAt_row (by simpa using hown4)⟩); have z4 := BW4.size; have B4 : Below w.heap.size w w4 := below_via (by (repeat' (first | (with_reducible exact Below.refl _ _) | (with_reducible assumption) | (with_reducible refine Below.drew ?_) | (with_reducible refine below_drewN ?_ _) | (with_reducible refine Below.setCell ?_ ?_ _) | (with_reducible refine Below.alloc ?_ ?_ _) | go_size | omega))) BW4; clear hown4 hgrow4 hg04 hg14))
        refine (CB.out _ _ _ _ _ _ _ (by simp [*]) (by simp [*]) (QB.out.keep BW4) QR.out).mono ?_
        rintro e w5 ⟨rfl, h5⟩
        have B5 : Below w.heap.size w w5 := below_via (by (repeat' (first | (with_reducible exact Below.refl _ _) | (with_reducible assumption) | (with_reducible refine Below.drew ?_) | (with_reducible refine below_drewN ?_ _) | (with_reducible refine Below.setCell ?_ ?_ _) | (with_reducible refine Below.alloc ?_ ?_ _) | go_size | omega))) h5
        have z5 := B5.size
        go_wp2_with fail
        go_meet
        exact ⟨_, rfl, rfl, Box.new _ _ _ rfl, by (repeat' (first | (with_reducible exact Below.refl _ _) | (with_reducible assumption) | (with_reducible refine Below.drew ?_) | (with_reducible refine below_drewN ?_ _) | (with_reducible refine Below.setCell ?_ ?_ _) | (with_reducible refine Below.alloc ?_ ?_ _) | go_size | omega))⟩
  obtain ⟨nb, rfl, rfl, hnb, B5⟩ := hcut
  obtain ⟨w5, rfl⟩ : ∃ x : World, x = wc := ⟨_, rfl⟩
  have X5 := Lib.hid hnb
  have z5 := B5.size
  clear hnb hiB hiR hzB0 hzB1 hzB2 hzR0 hzR1 hzR2
  go_wp2_with fail
  refine (CR.out _ (HP.out.keep B5) (HQ.out.keep B5)).mono ?_
  rintro e w6 ⟨rfl, h⟩
  have B6 : Below w.heap.size w w6 := below_via B5 h
  have X6 := Lib.hid ((X5.out.keep h).alloc (.cells #[.int .i64 V0, .int .i64 V1] 90))
  have z6 := h.size
  clear h X5 CR
  have hbE : (E == 0) = false := by simpa using hne
  obtain ⟨x0, x1, -⟩ := X6.out.two
  have lx := X6.out.lt
  go_wp2_with fail
  go_ret
  exact ⟨rfl, by (repeat' (first | (with_reducible exact Below.refl _ _) | (with_reducible assumption) | (with_reducible refine Below.drew ?_) | (with_reducible refine below_drewN ?_ _) | (with_reducible refine Below.setCell ?_ ?_ _) | (with_reducible refine Below.alloc ?_ ?_ _) | go_size | omega))⟩
end Go.Proofs.Ytnfpmaenikhoaaa
