/-
  The law PlateBridges: its lists of bearings and ranges.
-/
import Derived.Test.YtnfpmaenikhoaaaLb1
import Derived.Test.YtnfpmaenikhoaaaAwk3
import Derived.Deep.DeepCutAuto
namespace Go.Proofs.Ytnfpmaenikhoaaa
open Go.RowKit
def LbRel (l : List Br) (P : List (Int × Int)) (nb : Nat) (V0 V1 : Int) (T : TypeId) (w : World) (v9 v10 v11 : Value) (wr : World) : Prop :=
  ∃ k : Nat, k ≤ l.length ∧ v11 = .int .i64 (k : Int) ∧ v9 = .int .i64 (sB cLo l P k) ∧ v10 = .int .i64 (sB cHi l P k) ∧ Box wr nb #[.int .i64 V0, .int .i64 V1] T ∧ Below w.heap.size w wr
theorem downOk (f b k a h t : Int) (w : World) (ho : okB f b k a h = true) (t0 : 0 ≤ t) (t1 : t ≤ 10000000) :
    Calls Try.prog 57 #[brg f b k a h, .int .i64 t] w fun e w' => e = .returned (.tuple #[.agg #[.int .i64 (redN (t * stN f b k a h) (a * h)), .int .i64 (redD (t * stN f b k a h) (a * h))], .int .i64 0]) ∧ Below w.heap.size w w' := by
  have h1 := downBearing_any f b k a h t w
  have hr : inR t 0 10000000 = true := by unfold inR; simp; omega
  unfold dbN dbD dbE at h1
  simp only [ho, hr, Bool.and_self, if_true, Bool.not_true, if_false, Bool.false_eq_true] at h1
  exact h1
theorem dn_red {n d : Int} (hd : 1 ≤ d) : dn (redN n d) (redD n d) = dn n d ∧ up (redN n d) (redD n d) = up n d := by
  have := redq (n := n) hd 1
  simpa using this
set_option maxRecDepth 100000 in
set_option maxHeartbeats 3200000 in
theorem bridges_D (V0 V1 E : Int) (l : List Br) (P : List (Int × Int)) (a a2 : Option Addr) (cap cap2 : Nat) (w : World) (hl : l.length ≤ 9223372036854775807) (hl2 : P.length ≤ 9223372036854775807) (h1 : (l.length : Int) ≤ 20) (h3 : P.length ≤ 305) (h4 : l.length ≤ 305) (hp : BrAt w a l) (hq : LdAt w a2 P) (hE0 : E = 0) (h2 : P.length = l.length) (hE : brE l P l.length = 0) (hV : V0 = sB bLo l P l.length ∧ V1 = sB bHi l P l.length)
    (CB : Hid (∀ (n n2 : Nat) (a a2 : Option Addr) (cap cap2 : Nat) (u : World), n = l.length → n2 = P.length → BrAt u a l → LdAt u a2 P → Calls Try.prog 55 #[.slice a n cap, .slice a2 n2 cap2] u fun e w' => e = .returned (.tuple #[rng V0 V1, .int .i64 E]) ∧ Below u.heap.size u w'))
    (CR : Hid (∀ (u : World), BrAt u a l → LdAt u a2 P → Calls Try.prog 56 #[.slice a l.length cap, .slice a2 P.length cap2] u fun e w' => e = .returned (.tuple #[rng V0 V1, .int .i64 E]) ∧ Below u.heap.size u w')) :
    Calls Try.prog 12 #[.slice a l.length cap, .slice a2 P.length cap2] w fun e w' => e = .returned (.bool true) ∧ Below w.heap.size w w' := by
  have HE0 := Lib.hid hE0; clear hE0
  have H2 := Lib.hid h2; have HE := Lib.hid hE; have HV := Lib.hid hV
  clear h2 hE hV
  obtain ⟨iB, hiB, hzB0, hzB1, hzB2⟩ := info_parts infoB
  obtain ⟨iR, hiR, hzR0, hzR1, hzR2⟩ := info_parts infoR
  have AW := Lib.hid (fun u => awake3_any u)
  have HP := Lib.hid hp; have HQ := Lib.hid hq
  clear hp hq
  go_enter Try.func12, Try.ntmps12
  go_wp2_with fail
  refine (AW.out _).mono ?_
  rintro e w1 ⟨rfl, h⟩
  have B1 : Below w.heap.size w w1 := below_via (by (repeat' (first | (with_reducible exact Below.refl _ _) | (with_reducible assumption) | (with_reducible refine Below.drew ?_) | (with_reducible refine below_drewN ?_ _) | (with_reducible refine Below.setCell ?_ ?_ _) | (with_reducible refine Below.alloc ?_ ?_ _) | go_size | omega))) h
  have z1 := h.size
  clear h AW
  go_upto_region 5 with fail
  go_cut [5, 6] (fun s5 s6 wx => ∃ nb : Nat, s5 = .pointer (some ⟨nb, 0, none⟩) ∧ s6 = .int .i64 E ∧ Box wx nb #[.int .i64 V0, .int .i64 V1] 90 ∧ Below w.heap.size w wx)
  case first =>
    by_cases hl0 : l = []
    · by_cases hp0 : P = []
      · subst hl0; subst hp0
        have hsB : ∀ u : World, Src Try.prog iB.size 87 (.slice a 0 cap) 0 [] u := fun u => by
          cases a with
          | none => exact Src.ofNil u Try.underlying87 cap
          | some x => exact Src.ofSlice u Try.underlying87 x 0 cap [] (by simp) (by simp) (by simp)
        have APB : ∀ (u : World) (ty : TypeId) (B : Nat), (Builtin.append_ #[87, 87] ty #[.slice (some ⟨B, 0, none⟩) 0 0, .slice a 0 cap]).run Try.prog u = .ok (.slice (some ⟨B, 0, none⟩) 0 0) u := fun u ty B =>
          run_append_nothing u 87 87 ty 97 iB Try.underlying87 hiB (some ⟨B, 0, none⟩) 0 0 (by omega) _ (hsB u)
        have hsR : ∀ u : World, Src Try.prog iR.size 88 (.slice a2 0 cap2) 0 [] u := fun u => by
          cases a2 with
          | none => exact Src.ofNil u Try.underlying88 cap2
          | some x => exact Src.ofSlice u Try.underlying88 x 0 cap2 [] (by simp) (by simp) (by simp)
        have APR : ∀ (u : World) (ty : TypeId) (B : Nat), (Builtin.append_ #[88, 88] ty #[.slice (some ⟨B, 0, none⟩) 0 0, .slice a2 0 cap2]).run Try.prog u = .ok (.slice (some ⟨B, 0, none⟩) 0 0) u := fun u ty B =>
          run_append_nothing u 88 88 ty 90 iR Try.underlying88 hiR (some ⟨B, 0, none⟩) 0 0 (by omega) _ (hsR u)
        go_wp2_with (first | (at_builtin; refine wpList_nothing rfl _ _ _ _ rfl _ _ rfl rfl (APB _ _ _) ?_) | (at_builtin; refine wpList_nothing rfl _ _ _ _ rfl _ _ rfl rfl (APR _ _ _) ?_))
        refine (CB.out _ _ _ _ _ _ _ (by simp [*]) (by simp [*]) (.inl rfl) (.inl rfl)).mono ?_
        rintro e w5 ⟨rfl, h5⟩
        have B5 : Below w.heap.size w w5 := below_via (by (repeat' (first | (with_reducible exact Below.refl _ _) | (with_reducible assumption) | (with_reducible refine Below.drew ?_) | (with_reducible refine below_drewN ?_ _) | (with_reducible refine Below.setCell ?_ ?_ _) | (with_reducible refine Below.alloc ?_ ?_ _) | go_size | omega))) h5
        have z5 := B5.size
        go_wp2_with fail
        go_meet
        exact ⟨_, rfl, rfl, Box.new _ _ _ rfl, by (repeat' (first | (with_reducible exact Below.refl _ _) | (with_reducible assumption) | (with_reducible refine Below.drew ?_) | (with_reducible refine below_drewN ?_ _) | (with_reducible refine Below.setCell ?_ ?_ _) | (with_reducible refine Below.alloc ?_ ?_ _) | go_size | omega))⟩
      · subst hl0
        have hsB : ∀ u : World, Src Try.prog iB.size 87 (.slice a 0 cap) 0 [] u := fun u => by
          cases a with
          | none => exact Src.ofNil u Try.underlying87 cap
          | some x => exact Src.ofSlice u Try.underlying87 x 0 cap [] (by simp) (by simp) (by simp)
        have APB : ∀ (u : World) (ty : TypeId) (B : Nat), (Builtin.append_ #[87, 87] ty #[.slice (some ⟨B, 0, none⟩) 0 0, .slice a 0 cap]).run Try.prog u = .ok (.slice (some ⟨B, 0, none⟩) 0 0) u := fun u ty B =>
          run_append_nothing u 87 87 ty 97 iB Try.underlying87 hiB (some ⟨B, 0, none⟩) 0 0 (by omega) _ (hsB u)
        obtain ⟨b1, o1, rfl, hb1, hc1⟩ : ∃ b o, a2 = some ⟨b, o, none⟩ ∧ b < w1.heap.size ∧ LoadsAt w1 b o P := by
          rcases HQ.out.keep B1 with h | h
          · exact absurd h hp0
          · exact h
        have hnP : 0 < P.length := List.length_pos_iff.2 hp0
        have HCR : Hid (∀ (v : World), Below w1.heap.size w1 v → ∀ j u, (ldc P)[j]? = some u → (v.alloc (.cells #[] 90)).cell? ((⟨b1, o1, none⟩ : Addr).add j) = some u) := Lib.hid fun v hv j u hu => by
          have h := ldc_cells (hc1.below hv hb1) j u hu
          rw [addr_add] at h ⊢
          exact (World.cell?_alloc_past _ _ _ (Nat.lt_of_lt_of_le hb1 hv.size)).trans h
        clear hc1
        go_wp2_with (first | (at_builtin; refine wpList_nothing rfl _ _ _ _ rfl _ _ rfl rfl (APB _ _ _) ?_) | (at_builtin; refine wpList_append_grows _ rfl _ _ 88 rfl 90 iR _ 2 16 Try.underlying88 hiR hzR0 hzR1 hzR2 rfl (by omega) (some ⟨w1.heap.size + 1, 0, none⟩) 0 0 [] rfl (by intro e; cases e) rfl (by intro _ _ j u hu; simp at hu) ⟨b1, o1, none⟩ P.length cap2 (ldc P) rfl (ldc_len P) (HCR.out _ (by (repeat' (first | (with_reducible exact Below.refl _ _) | (with_reducible assumption) | (with_reducible refine Below.drew ?_) | (with_reducible refine below_drewN ?_ _) | (with_reducible refine Below.setCell ?_ ?_ _) | (with_reducible refine Below.alloc ?_ ?_ _) | go_size | omega)))) (ldc_one P) (by omega) (by unfold maxLen; omega) (by omega) ?_; intro v'' w4 hown4 hgrow4; obtain ⟨g4, c4, rfl, hg04, hg14⟩ := hown4.form (by omega); have BW4 : Below (w1.alloc (.cells #[] 97)).heap.size (w1.alloc (.cells #[] 97)) w4 := Below.grown (by (repeat' (first | (with_reducible exact Below.refl _ _) | (with_reducible assumption) | (with_reducible refine Below.drew ?_) | (with_reducible refine below_drewN ?_ _) | (with_reducible refine Below.setCell ?_ ?_ _) | (with_reducible refine Below.alloc ?_ ?_ _) | go_size | omega))) hgrow4 (by simp) (fun k e => by cases e); have QR := Lib.hid (show LdAt w4 (some ⟨g4, 0, none⟩) P from .inr ⟨g4, 0, rfl, hg14, rgsAt_row (by simpa using hown4)⟩); have z4 := BW4.size; have B4 : Below w.heap.size w w4 := below_via (by (repeat' (first | (with_reducible exact Below.refl _ _) | (with_reducible assumption) | (with_reducible refine Below.drew ?_) | (with_reducible refine below_drewN ?_ _) | (with_reducible refine Below.setCell ?_ ?_ _) | (with_reducible refine Below.alloc ?_ ?_ _) | go_size | omega))) BW4; clear hown4 hgrow4 hg04 hg14))
        refine (CB.out _ _ _ _ _ _ _ (by simp [*]) (by simp [*]) (.inl rfl) QR.out).mono ?_
        rintro e w5 ⟨rfl, h5⟩
        have B5 : Below w.heap.size w w5 := below_via (by (repeat' (first | (with_reducible exact Below.refl _ _) | (with_reducible assumption) | (with_reducible refine Below.drew ?_) | (with_reducible refine below_drewN ?_ _) | (with_reducible refine Below.setCell ?_ ?_ _) | (with_reducible refine Below.alloc ?_ ?_ _) | go_size | omega))) h5
        have z5 := B5.size
        go_wp2_with fail
        go_meet
        exact ⟨_, rfl, rfl, Box.new _ _ _ rfl, by (repeat' (first | (with_reducible exact Below.refl _ _) | (with_reducible assumption) | (with_reducible refine Below.drew ?_) | (with_reducible refine below_drewN ?_ _) | (with_reducible refine Below.setCell ?_ ?_ _) | (with_reducible refine Below.alloc ?_ ?_ _) | go_size | omega))⟩
    · by_cases hp0 : P = []
      · subst hp0
        obtain ⟨b0, o0, rfl, hb0, hc0⟩ : ∃ b o, a = some ⟨b, o, none⟩ ∧ b < w1.heap.size ∧ BrsAt w1 b o l := by
          rcases HP.out.keep B1 with h | h
          · exact absurd h hl0
          · exact h
        have hnB : 0 < l.length := List.length_pos_iff.2 hl0
        have HCB : Hid (∀ j u, (brc l)[j]? = some u → (w1.alloc (.cells #[] 97)).cell? ((⟨b0, o0, none⟩ : Addr).add j) = some u) := Lib.hid fun j u hu => by
          have h := brc_cells hc0 j u hu
          rw [addr_add] at h ⊢
          exact (World.cell?_alloc_past _ _ _ hb0).trans h
        clear hc0
        have hsR : ∀ u : World, Src Try.prog iR.size 88 (.slice a2 0 cap2) 0 [] u := fun u => by
          cases a2 with
          | none => exact Src.ofNil u Try.underlying88 cap2
          | some x => exact Src.ofSlice u Try.underlying88 x 0 cap2 [] (by simp) (by simp) (by simp)
        have APR : ∀ (u : World) (ty : TypeId) (B : Nat), (Builtin.append_ #[88, 88] ty #[.slice (some ⟨B, 0, none⟩) 0 0, .slice a2 0 cap2]).run Try.prog u = .ok (.slice (some ⟨B, 0, none⟩) 0 0) u := fun u ty B =>
          run_append_nothing u 88 88 ty 90 iR Try.underlying88 hiR (some ⟨B, 0, none⟩) 0 0 (by omega) _ (hsR u)
        go_wp2_with (first | (at_builtin; refine wpList_append_grows _ rfl _ _ 87 rfl 97 iB _ 5 40 Try.underlying87 hiB hzB0 hzB1 hzB2 rfl (by omega) (some ⟨w1.heap.size, 0, none⟩) 0 0 [] rfl (by intro e; cases e) rfl (by intro _ _ j u hu; simp at hu) ⟨b0, o0, none⟩ l.length cap (brc l) rfl (brc_len l) HCB.out (brc_one l) (by omega) (by unfold maxLen; omega) (by omega) ?_; intro v' w3 hown hgrow; obtain ⟨g, c', rfl, hg0, hg1⟩ := hown.form (by omega); have BW3 : Below w1.heap.size w1 w3 := Below.grown (by (repeat' (first | (with_reducible exact Below.refl _ _) | (with_reducible assumption) | (with_reducible refine Below.drew ?_) | (with_reducible refine below_drewN ?_ _) | (with_reducible refine Below.setCell ?_ ?_ _) | (with_reducible refine Below.alloc ?_ ?_ _) | go_size | omega))) hgrow (by simp) (fun k e => by cases e); have QB := Lib.hid (show BrAt w3 (some ⟨g, 0, none⟩) l from .inr ⟨g, 0, rfl, hg1, brsAt_row (by simpa using hown)⟩); have z3 := BW3.size; have B3 : Below w.heap.size w w3 := below_via B1 BW3; clear hown hgrow hg0 hg1) | (at_builtin; refine wpList_nothing rfl _ _ _ _ rfl _ _ rfl rfl (APR _ _ _) ?_))
        refine (CB.out _ _ _ _ _ _ _ (by simp [*]) (by simp [*]) (QB.out.keep (by (repeat' (first | (with_reducible exact Below.refl _ _) | (with_reducible assumption) | (with_reducible refine Below.drew ?_) | (with_reducible refine below_drewN ?_ _) | (with_reducible refine Below.setCell ?_ ?_ _) | (with_reducible refine Below.alloc ?_ ?_ _) | go_size | omega)))) (.inl rfl)).mono ?_
        rintro e w5 ⟨rfl, h5⟩
        have B5 : Below w.heap.size w w5 := below_via (by (repeat' (first | (with_reducible exact Below.refl _ _) | (with_reducible assumption) | (with_reducible refine Below.drew ?_) | (with_reducible refine below_drewN ?_ _) | (with_reducible refine Below.setCell ?_ ?_ _) | (with_reducible refine Below.alloc ?_ ?_ _) | go_size | omega))) h5
        have z5 := B5.size
        go_wp2_with fail
        go_meet
        exact ⟨_, rfl, rfl, Box.new _ _ _ rfl, by (repeat' (first | (with_reducible exact Below.refl _ _) | (with_reducible assumption) | (with_reducible refine Below.drew ?_) | (with_reducible refine below_drewN ?_ _) | (with_reducible refine Below.setCell ?_ ?_ _) | (with_reducible refine Below.alloc ?_ ?_ _) | go_size | omega))⟩
      · obtain ⟨b0, o0, rfl, hb0, hc0⟩ : ∃ b o, a = some ⟨b, o, none⟩ ∧ b < w1.heap.size ∧ BrsAt w1 b o l := by
          rcases HP.out.keep B1 with h | h
          · exact absurd h hl0
          · exact h
        have hnB : 0 < l.length := List.length_pos_iff.2 hl0
        have HCB : Hid (∀ j u, (brc l)[j]? = some u → (w1.alloc (.cells #[] 97)).cell? ((⟨b0, o0, none⟩ : Addr).add j) = some u) := Lib.hid fun j u hu => by
          have h := brc_cells hc0 j u hu
          rw [addr_add] at h ⊢
          exact (World.cell?_alloc_past _ _ _ hb0).trans h
        clear hc0
        obtain ⟨b1, o1, rfl, hb1, hc1⟩ : ∃ b o, a2 = some ⟨b, o, none⟩ ∧ b < w1.heap.size ∧ LoadsAt w1 b o P := by
          rcases HQ.out.keep B1 with h | h
          · exact absurd h hp0
          · exact h
        have hnP : 0 < P.length := List.length_pos_iff.2 hp0
        have HCR : Hid (∀ (v : World), Below w1.heap.size w1 v → ∀ j u, (ldc P)[j]? = some u → (v.alloc (.cells #[] 90)).cell? ((⟨b1, o1, none⟩ : Addr).add j) = some u) := Lib.hid fun v hv j u hu => by
          have h := ldc_cells (hc1.below hv hb1) j u hu
          rw [addr_add] at h ⊢
          exact (World.cell?_alloc_past _ _ _ (Nat.lt_of_lt_of_le hb1 hv.size)).trans h
        clear hc1
        go_wp2_with (first | (at_builtin; refine wpList_append_grows _ rfl _ _ 87 rfl 97 iB _ 5 40 Try.underlying87 hiB hzB0 hzB1 hzB2 rfl (by omega) (some ⟨w1.heap.size, 0, none⟩) 0 0 [] rfl (by intro e; cases e) rfl (by intro _ _ j u hu; simp at hu) ⟨b0, o0, none⟩ l.length cap (brc l) rfl (brc_len l) HCB.out (brc_one l) (by omega) (by unfold maxLen; omega) (by omega) ?_; intro v' w3 hown hgrow; obtain ⟨g, c', rfl, hg0, hg1⟩ := hown.form (by omega); have BW3 : Below w1.heap.size w1 w3 := Below.grown (by (repeat' (first | (with_reducible exact Below.refl _ _) | (with_reducible assumption) | (with_reducible refine Below.drew ?_) | (with_reducible refine below_drewN ?_ _) | (with_reducible refine Below.setCell ?_ ?_ _) | (with_reducible refine Below.alloc ?_ ?_ _) | go_size | omega))) hgrow (by simp) (fun k e => by cases e); have QB := Lib.hid (show BrAt w3 (some ⟨g, 0, none⟩) l from .inr ⟨g, 0, rfl, hg1, brsAt_row (by simpa using hown)⟩); have z3 := BW3.size; have B3 : Below w.heap.size w w3 := below_via B1 BW3; clear hown hgrow hg0 hg1) | (at_builtin; refine wpList_append_grows _ rfl _ _ 88 rfl 90 iR _ 2 16 Try.underlying88 hiR hzR0 hzR1 hzR2 rfl (by omega) (some ⟨w3.heap.size, 0, none⟩) 0 0 [] rfl (by intro e; cases e) rfl (by intro _ _ j u hu; simp at hu) ⟨b1, o1, none⟩ P.length cap2 (ldc P) rfl (ldc_len P) (HCR.out _ BW3) (ldc_one P) (by omega) (by unfold maxLen; omega) (by omega) ?_; intro v'' w4 hown4 hgrow4; obtain ⟨g4, c4, rfl, hg04, hg14⟩ := hown4.form (by omega); have BW4 : Below w3.heap.size w3 w4 := Below.grown (by (repeat' (first | (with_reducible exact Below.refl _ _) | (with_reducible assumption) | (with_reducible refine Below.drew ?_) | (with_reducible refine below_drewN ?_ _) | (with_reducible refine Below.setCell ?_ ?_ _) | (with_reducible refine Below.alloc ?_ ?_ _) | go_size | omega))) hgrow4 (by simp) (fun k e => by cases e); have QR := Lib.hid (show LdAt w4 (some ⟨g4, 0, none⟩) P from .inr ⟨g4, 0, rfl, hg14, rgsAt_row (by simpa using hown4)⟩); have z4 := BW4.size; have B4 : Below w.heap.size w w4 := below_via (by (repeat' (first | (with_reducible exact Below.refl _ _) | (with_reducible assumption) | (with_reducible refine Below.drew ?_) | (with_reducible refine below_drewN ?_ _) | (with_reducible refine Below.setCell ?_ ?_ _) | (with_reducible refine Below.alloc ?_ ?_ _) | go_size | omega))) BW4; clear hown4 hgrow4 hg04 hg14))
        refine (CB.out _ _ _ _ _ _ _ (by simp [*]) (by simp [*]) (QB.out.keep BW4) QR.out).mono ?_
        rintro e w5 ⟨rfl, h5⟩
        have B5 : Below w.heap.size w w5 := below_via (by (repeat' (first | (with_reducible exact Below.refl _ _) | (with_reducible assumption) | (with_reducible refine Below.drew ?_) | (with_reducible refine below_drewN ?_ _) | (with_reducible refine Below.setCell ?_ ?_ _) | (with_reducible refine Below.alloc ?_ ?_ _) | go_size | omega))) h5
        have z5 := B5.size
        go_wp2_with fail
        go_meet
        exact ⟨_, rfl, rfl, Box.new _ _ _ rfl, by (repeat' (first | (with_reducible exact Below.refl _ _) | (with_reducible assumption) | (with_reducible refine Below.drew ?_) | (with_reducible refine below_drewN ?_ _) | (with_reducible refine Below.setCell ?_ ?_ _) | (with_reducible refine Below.alloc ?_ ?_ _) | go_size | omega))⟩
  obtain ⟨nb, rfl, rfl, hnb, B5⟩ := hcut
  obtain ⟨w5, rfl⟩ : ∃ x : World, x = wc := ⟨_, rfl⟩
  have X5 := Lib.hid hnb
  have z5 := B5.size
  clear hnb hiB hiR hzB0 hzB1 hzB2 hzR0 hzR1 hzR2
  go_wp2_with fail
  refine (CR.out _ (HP.out.keep B5) (HQ.out.keep B5)).mono ?_
  rintro e w6 ⟨rfl, h⟩
  have B6 : Below w.heap.size w w6 := below_via B5 h
  have X6 := Lib.hid ((X5.out.keep h).alloc (.cells #[.int .i64 V0, .int .i64 V1] 90))
  have z6 := h.size
  clear h X5 CR
  have hE0 := HE0.out
  subst hE0
  clear HE0
  obtain ⟨x0, x1, -⟩ := X6.out.two
  have lx := X6.out.lt
  go_wp2_with fail
  clear x0 x1 lx
  have B7 : Below w.heap.size w (w6.alloc (.cells #[.int .i64 V0, .int .i64 V1] 90)) := by (repeat' (first | (with_reducible exact Below.refl _ _) | (with_reducible assumption) | (with_reducible refine Below.drew ?_) | (with_reducible refine below_drewN ?_ _) | (with_reducible refine Below.setCell ?_ ?_ _) | (with_reducible refine Below.alloc ?_ ?_ _) | go_size | omega))
  generalize (w6.alloc (.cells #[.int .i64 V0, .int .i64 V1] 90)) = w7 at *
  go_loopw [9, 10, 11] (LbRel l P nb V0 V1 90 w) (fun _ _ i _ => l.length - (intOf i).toNat)
  case atStart => exact ⟨0, by omega, rfl, rfl, rfl, X6.out, B7⟩
  case round =>
    clear B7 X6
    obtain ⟨k, hk, rfl, rfl, rfl, hb0, hB⟩ := hrel
    have X9 := Lib.hid hb0; clear hb0
    have zr := hB.size
    have l0 := X9.out.lt
    have s0 := sB_bd (g := cLo) (l := l) (T := P) (M := 120000000000000000) (k := k) (by omega) (by have := H2.out; omega) (brE_part HE.out hk) (fun x t h h' => (c_bd h h').1) (by omega)
    have s1 := sB_bd (g := cHi) (l := l) (T := P) (M := 120000000000000000) (k := k) (by omega) (by have := H2.out; omega) (brE_part HE.out hk) (fun x t h h' => (c_bd h h').2) (by omega)
    obtain ⟨s00, s01⟩ := s0
    obtain ⟨s10, s11⟩ := s1
    by_cases hkl : k < l.length
    · rcases HP.out with h0 | ⟨b0, o0, rfl, hbl, hc⟩
      · rw [h0] at hkl; simp at hkl
      have hkp : k < P.length := by have := H2.out; omega
      rcases HQ.out with h0 | ⟨b1, o1, rfl, hbl1, hd⟩
      · rw [h0] at hkp; simp at hkp
      obtain ⟨c0, c1, c2, c3, c4⟩ := hc k hkl
      obtain ⟨d0, -⟩ := hd k hkp
      clear hc hd
      have GO := Lib.hid (fun (x : Br) (t : Int × Int) (hx : l[k] = x) (ht : P[k] = t) => And.intro (sB_go (g := cLo) hkl hkp hx ht) (sB_go (g := cHi) hkl hkp hx ht))
      obtain ⟨ok1, ok2⟩ := brE_ok HE.out k hkl hkl hkp
      rcases hlk : l[k] with ⟨f, b, kk, aa, h⟩
      rcases hpk : P[k] with ⟨lo, hi⟩
      rw [hlk] at c0 c1 c2 c3 c4 ok1
      rw [hpk] at d0 ok2
      have GO' := Lib.hid (GO.out _ _ hlk hpk)
      clear hlk hpk GO
      dsimp only at c0 c1 c2 c3 c4 d0
      generalize sB cLo l P k = S0 at *
      generalize sB cHi l P k = S1 at *
      have KK := Lib.hid (fun (w' : World) (hw : Below w.heap.size w w') => show ((w'.cell? ⟨b0, o0 + k * 5, none⟩ = some (.int .i64 f) ∧ w'.cell? ⟨b0, o0 + k * 5 + 1, none⟩ = some (.int .i64 b) ∧ w'.cell? ⟨b0, o0 + k * 5 + 2, none⟩ = some (.int .i64 kk) ∧ w'.cell? ⟨b0, o0 + k * 5 + 3, none⟩ = some (.int .i64 aa) ∧ w'.cell? ⟨b0, o0 + k * 5 + 4, none⟩ = some (.int .i64 h)) ∧ w'.cell? ⟨b1, o1 + k * 2, none⟩ = some (.int .i64 lo)) from ⟨⟨(hw.cell (p := ⟨b0, o0 + k * 5, none⟩) hbl).trans c0, (hw.cell (p := ⟨b0, o0 + k * 5 + 1, none⟩) hbl).trans c1, (hw.cell (p := ⟨b0, o0 + k * 5 + 2, none⟩) hbl).trans c2, (hw.cell (p := ⟨b0, o0 + k * 5 + 3, none⟩) hbl).trans c3, (hw.cell (p := ⟨b0, o0 + k * 5 + 4, none⟩) hbl).trans c4⟩, (hw.cell (p := ⟨b1, o1 + k * 2, none⟩) hbl1).trans d0⟩)
      clear c0 c1 c2 c3 c4 d0
      have hbr : b0 < wr.heap.size := by omega
      have hbr1 : b1 < wr.heap.size := by omega
      have cb := c_bd (x := ⟨f, b, kk, aa, h⟩) (t := (lo, hi)) ok1 ok2
      obtain ⟨t0, t1, t2⟩ := okT_bd ok2
      dsimp only at t0 t1 t2
      have db := Br.bd (x := ⟨f, b, kk, aa, h⟩) ok1
      obtain ⟨-, db0, -⟩ := db
      change 1 ≤ aa * h at db0
      have dr := dn_red (n := lo * stN f b kk aa h) db0
      obtain ⟨-, -, -, dD⟩ := red_back (n := lo * stN f b kk aa h) db0
      have tb := Br.tbd (x := ⟨f, b, kk, aa, h⟩) (t := (lo, hi)) ok1 ok2
      change ((-120000000000000000 ≤ lo * stN f b kk aa h ∧ lo * stN f b kk aa h ≤ 120000000000000000) ∧ _) at tb
      have dbu := (Br.bd (x := ⟨f, b, kk, aa, h⟩) ok1).2.2
      change aa * h ≤ 90000000000 at dbu
      obtain ⟨rs0, rs1, rs2⟩ := red_size (n := lo * stN f b kk aa h) db0 tb.1.1 tb.1.2
      have CD := Lib.hid (fun u => downOk f b kk aa h lo u ok1 (by omega) (by omega))
      have EL := Lib.hid (show cLo ⟨f, b, kk, aa, h⟩ (lo, hi) = dn (redN (lo * stN f b kk aa h) (aa * h)) (redD (lo * stN f b kk aa h) (aa * h)) from dr.1.symm)
      have EH := Lib.hid (show cHi ⟨f, b, kk, aa, h⟩ (lo, hi) = up (redN (lo * stN f b kk aa h) (aa * h)) (redD (lo * stN f b kk aa h) (aa * h)) from dr.2.symm)
      clear dr tb
      generalize redN (lo * stN f b kk aa h) (aa * h) = N at *
      generalize redD (lo * stN f b kk aa h) (aa * h) = D at *
      generalize cLo ⟨f, b, kk, aa, h⟩ (lo, hi) = rl at *
      generalize cHi ⟨f, b, kk, aa, h⟩ (lo, hi) = rh at *
      obtain ⟨⟨cb0, cb1⟩, cb2, cb3⟩ := cb
      have K := Lib.hid (fun (w' : World) (hw : Below wr.heap.size wr w') => KK.out w' (below_via hB hw))
      go_upto_region 15 with fail
      go_cut [12, 13] (fun s12 s13 wx => ∃ n2 : Nat, s12 = .pointer (some ⟨n2, 0, none⟩) ∧ s13 = .int .i64 0 ∧ Box wx n2 #[.int .i64 N, .int .i64 D] 65 ∧ Below wr.heap.size wr wx)
      case first =>
        go_region_held3 (fun w' => ((w'.cell? ⟨b0, o0 + k * 5, none⟩ = some (.int .i64 f) ∧ w'.cell? ⟨b0, o0 + k * 5 + 1, none⟩ = some (.int .i64 b) ∧ w'.cell? ⟨b0, o0 + k * 5 + 2, none⟩ = some (.int .i64 kk) ∧ w'.cell? ⟨b0, o0 + k * 5 + 3, none⟩ = some (.int .i64 aa) ∧ w'.cell? ⟨b0, o0 + k * 5 + 4, none⟩ = some (.int .i64 h)) ∧ w'.cell? ⟨b1, o1 + k * 2, none⟩ = some (.int .i64 lo)))
          ((refine K.out _ ?_; (repeat' (first | (with_reducible exact Below.refl _ _) | (with_reducible assumption) | (with_reducible refine Below.drew ?_) | (with_reducible refine below_drewN ?_ _) | (with_reducible refine Below.setCell ?_ ?_ _) | (with_reducible refine Below.alloc ?_ ?_ _) | go_size | omega)); done))
          (first | (go_at_call 57; refine (CD.out _).mono ?_; rintro e w8 ⟨rfl, h8⟩; (first | have NB := Lib.hid ((Box.new wr #[.int .i64 0, .int .i64 0] 65 (n := wr.heap.size) rfl).keep h8) | have NB := Lib.hid ((Box.new wr.drew #[.int .i64 0, .int .i64 0] 65 (n := wr.heap.size) rfl).keep h8) | have NB := Lib.hid (((Box.new wr #[.int .i64 0, .int .i64 0] 65 (n := wr.heap.size) rfl).drew).keep h8) | skip); have hB8 : Below wr.heap.size wr w8 := below_via (by (repeat' (first | (with_reducible exact Below.refl _ _) | (with_reducible assumption) | (with_reducible refine Below.drew ?_) | (with_reducible refine below_drewN ?_ _) | (with_reducible refine Below.setCell ?_ ?_ _) | (with_reducible refine Below.alloc ?_ ?_ _) | go_size | omega))) h8; clear h8; have hz8 := hB8.size; obtain ⟨⟨k0, k1, k2, k3, k4⟩, k5⟩ := K.out w8 hB8; (first | (obtain ⟨p0, p1, f0, f1⟩ := NB.out.two; have lo9 := NB.out.lt) | skip)))
        all_goals
          go_wp2_with fail
          go_meet
          refine ⟨_, rfl, rfl, ?_, by (repeat' (first | (with_reducible exact Below.refl _ _) | (with_reducible assumption) | (with_reducible refine Below.drew ?_) | (with_reducible refine below_drewN ?_ _) | (with_reducible refine Below.setCell ?_ ?_ _) | (with_reducible refine Below.alloc ?_ ?_ _) | go_size | omega))⟩
          first
            | (with_reducible exact Box.new _ _ _ rfl)
            | exact (NB.out.set 0 _).set 1 _
      obtain ⟨n2, rfl, rfl, hnb, hcB⟩ := hcut
      obtain ⟨v9, rfl⟩ : ∃ x : World, x = wc := ⟨_, rfl⟩
      have N9 := Lib.hid hnb
      have BB9 : Below w.heap.size w v9 := below_via hB hcB
      have X10 := Lib.hid (X9.out.keep hcB)
      clear hnb hcB X9 K KK CD
      obtain ⟨q0, q1, -⟩ := N9.out.two
      have l9 := N9.out.lt
      have CF := Lib.hid (fun u => Floor_any N D u (by omega) (by omega) (by omega) (by omega))
      have CG := Lib.hid (fun u => Ceil_any N D u (by omega) (by omega) (by omega) (by omega))
      rw [← EL.out] at CF
      rw [← EH.out] at CG
      have ws0 : IntKind.i64.wrap (S0 + rl) = S0 + rl := IntWalk.i64_in _ (by omega)
      have ws1 : IntKind.i64.wrap (S1 + rh) = S1 + rh := IntWalk.i64_in _ (by omega)
      go_wp2_with fail
      go_quiet (first | (go_at_call 58; exact q_same (CF.out _)) | (go_at_call 59; exact q_same (CG.out _)))
      go_wp2_with fail
      go_roundw
      case rel => exact ⟨k + 1, by omega, by simp, by rw [GO'.out.1], by rw [GO'.out.2], X10.out.drewN _, below_drewN BB9 _⟩
      case measure => simp [intOf]; omega
    · obtain rfl : k = l.length := by omega
      have le0 : V0 ≤ sB cLo l P l.length := by rw [HV.out.1]; exact sB_le (Nat.le_refl _) (by have := H2.out; omega) HE.out (fun x t h => (c_in h).1)
      have le1 : sB cHi l P l.length ≤ V1 := by rw [HV.out.2]; exact sB_le (Nat.le_refl _) (by have := H2.out; omega) HE.out (fun x t h => (c_in h).2)
      generalize sB cLo l P l.length = S0 at *
      generalize sB cHi l P l.length = S1 at *
      obtain ⟨x0, x1, -⟩ := X9.out.two
      go_wp2_with fail
      go_ret
      exact ⟨by simp, hB⟩
end Go.Proofs.Ytnfpmaenikhoaaa
