/-
  The law UpkeepPins. No condition but the primes.
-/
import Derived.Test.YtnjlifmjjihahaaDoorTqo
import Derived.Test.YtnjlifmjjihahaaDoorAw7
namespace Go.Proofs.YtnjlifmjjihahaaDoor
open Go.RowKit
set_option maxHeartbeats 800000 in
theorem pins_long (l : List (Int × Int)) (a : Option Addr) (cap : Nat) (m : Int) (w : World) (hl : l.length ≤ 9223372036854775807) (h : 63 < l.length) (hp : PrimesT w) : Calls Tryd.prog 5 #[.slice a l.length cap, .int .i64 m] w fun e w' => e = .returned (.bool true) ∧ Below w.heap.size w w' := by
  have AW := Lib.hid (awake7_any w hp); clear hp
  go_enter Tryd.func5, Tryd.ntmps5
  go_wp2_with fail
  refine AW.out.mono ?_
  rintro e w1 ⟨rfl, h1⟩
  go_wp2_with fail
  go_ret
  exact ⟨rfl, h1⟩
set_option maxRecDepth 100000 in
set_option maxHeartbeats 3200000 in
theorem pins_A (l : List (Int × Int)) (a : Option Addr) (cap : Nat) (m : Int) (w : World) (h : l.length ≤ 63) (hp : PrimesT w) (hs : TqAt w a l) (hl0 : l ≠ []) : Calls Tryd.prog 5 #[.slice a l.length cap, .int .i64 m] w fun e w' => e = .returned (.bool true) ∧ Below w.heap.size w w' := by
  have AW := Lib.hid (awake7_any w hp); clear hp
  obtain ⟨iB, hiB, hzB0, hzB1, hzB2⟩ := info_parts infoTq
  have HX := Lib.hid (show ∃ E V0 V1, tqsE l = E ∧ (loV l m).1 = V0 ∧ (loV l m).2 = V1 from ⟨_, _, _, rfl, rfl, rfl⟩)
  obtain ⟨E, V0, V1, hE, hV0, hV1⟩ := HX.out
  have CL := Lib.hid (fun (n : Nat) a cap u (hn : n = l.length) (hu : TqAt u a l) => (show Calls Tryd.prog 25 #[.slice a n cap, .int .i64 m] u fun e w' => e = .returned (.tuple #[.int .i64 V0, .int .i64 V1]) ∧ Below u.heap.size u w' from by
    subst hn
    have h := looseOnT_any l a cap m u (by omega) hu
    rw [hV0, hV1] at h
    exact h))
  have CLR := Lib.hid (fun (n : Nat) u (hn : n = l.length) (hu : TqAt u a l) => (show Calls Tryd.prog 26 #[.slice a n cap, .int .i64 m] u fun e w' => e = .returned (.tuple #[.int .i64 V0, .int .i64 V1]) ∧ Below u.heap.size u w' from by
    subst hn
    have h := refLooseOn_any l a cap m u (by omega) hu
    rw [hV0, hV1] at h
    exact h))
  have CR := Lib.hid (fun (n : Nat) u (hn : n = l.length) (hu : TqAt u a l) => (show Calls Tryd.prog 24 #[.slice a n cap] u fun e w' => e = .returned (.int .i64 E) ∧ Below u.heap.size u w' from by
    subst hn
    have h := refCheckTorques_any l a cap u (by omega) hu
    rw [hE] at h
    exact h))
  have CC := Lib.hid (fun (n : Nat) a cap u (hn : n = l.length) (hu : TqAt u a l) => (show Calls Tryd.prog 23 #[.slice a n cap] u fun e w' => e = .returned (.int .i64 E) ∧ Below u.heap.size u w' from by
    subst hn
    have h := checkTorques_any l a cap u (by omega) hu
    rw [hE] at h
    exact h))
  have HS := Lib.hid hs
  obtain ⟨b0, o0, rfl, hb0, hc0⟩ : ∃ b o, a = some ⟨b, o, none⟩ ∧ b < w.heap.size ∧ ∀ j (h : j < l.length), w.cell? ⟨b, o + j * 2, none⟩ = some (.int .i64 (l[j]).1) ∧ w.cell? ⟨b, o + j * 2 + 1, none⟩ = some (.int .i64 (l[j]).2) := by
    rcases hs with h | h
    · exact absurd h hl0
    · exact h
  have hnB : 0 < l.length := List.length_pos_iff.2 hl0
  have HCB := Lib.hid (show ∀ (v : World), Below w.heap.size w v → ∀ j u, (tqc l)[j]? = some u → (v.alloc (.cells #[] 114)).cell? ((⟨b0, o0, none⟩ : Addr).add j) = some u from fun v hv j u hu => by
    have h := tqc_cells hc0 j u hu
    rw [addr_add] at h ⊢
    exact (World.cell?_alloc_past _ _ _ (Nat.lt_of_lt_of_le hb0 hv.size)).trans ((hv.cell (p := ⟨b0, o0 + j, none⟩) hb0).trans h))
  clear hc0 hE hV0 hV1 HX hs
  go_enter Tryd.func5, Tryd.ntmps5
  go_wp2_with fail
  refine AW.out.mono ?_
  rintro e w1 ⟨rfl, B1⟩
  have z1 := B1.size
  clear AW
  go_wp2_with (at_builtin; refine wpList_append_grows _ rfl _ _ 36 rfl 114 iB _ 2 16 Tryd.underlying36 hiB hzB0 hzB1 hzB2 rfl (by omega) (some ⟨w1.heap.size, 0, none⟩) 0 0 [] rfl (by intro e; cases e) rfl (by intro _ _ j u hu; simp at hu) ⟨b0, o0, none⟩ l.length cap (tqc l) rfl (tqc_len l) (HCB.out _ B1) (tqc_one l) (by omega) (by unfold maxLen; omega) (by omega) ?_; intro v' w2 hown hgrow; obtain ⟨g, c', rfl, hg0, hg1⟩ := hown.form (by omega); have BW : Below w1.heap.size w1 w2 := Below.grown (by (repeat' (first | (with_reducible exact Below.refl _ _) | (with_reducible assumption) | (with_reducible refine Below.drew ?_) | (with_reducible refine below_drewN ?_ _) | (with_reducible refine Below.setCell ?_ ?_ _) | (with_reducible refine Below.alloc ?_ ?_ _) | go_size | omega))) hgrow (by simp) (fun k e => by cases e); have Q2 := Lib.hid (show TqAt w2 (some ⟨g, 0, none⟩) l from tqAt_row hg1 (by simpa using hown)); have B2 : Below w.heap.size w w2 := below_via B1 BW; have z2 := B2.size; clear hown hgrow hg0 hg1 BW)
  refine (CC.out _ _ _ _ (by simp [*]) Q2.out).mono ?_
  rintro e w3 ⟨rfl, h3⟩
  have B3 : Below w.heap.size w w3 := below_via B2 h3
  have z3 := B3.size
  clear h3 CC Q2
  go_wp2_with fail
  refine (CR.out _ _ (by simp [*]) (HS.out.keep B3)).mono ?_
  rintro e w4 ⟨rfl, h4⟩
  have B4 : Below w.heap.size w w4 := below_via B3 h4
  have z4 := B4.size
  clear h4 CR B3
  go_wp2_with (at_builtin; refine wpList_append_grows _ rfl _ _ 36 rfl 114 iB _ 2 16 Tryd.underlying36 hiB hzB0 hzB1 hzB2 rfl (by omega) (some ⟨w4.heap.size, 0, none⟩) 0 0 [] rfl (by intro e; cases e) rfl (by intro _ _ j u hu; simp at hu) ⟨b0, o0, none⟩ l.length cap (tqc l) rfl (tqc_len l) (HCB.out _ B4) (tqc_one l) (by omega) (by unfold maxLen; omega) (by omega) ?_; intro v' w5 hown hgrow; obtain ⟨g, c', rfl, hg0, hg1⟩ := hown.form (by omega); have BW : Below w4.heap.size w4 w5 := Below.grown (by (repeat' (first | (with_reducible exact Below.refl _ _) | (with_reducible assumption) | (with_reducible refine Below.drew ?_) | (with_reducible refine below_drewN ?_ _) | (with_reducible refine Below.setCell ?_ ?_ _) | (with_reducible refine Below.alloc ?_ ?_ _) | go_size | omega))) hgrow (by simp) (fun k e => by cases e); have Q5 := Lib.hid (show TqAt w5 (some ⟨g, 0, none⟩) l from tqAt_row hg1 (by simpa using hown)); have B5 : Below w.heap.size w w5 := below_via B4 BW; have z5 := B5.size; clear hown hgrow hg0 hg1 BW)
  refine (CL.out _ _ _ _ (by simp [*]) Q5.out).mono ?_
  rintro e w6 ⟨rfl, h6⟩
  have B6 : Below w.heap.size w w6 := below_via B5 h6
  have z6 := B6.size
  clear h6 CL
  go_wp2_with fail
  refine (CLR.out _ _ (by simp [*]) (HS.out.keep B6)).mono ?_
  rintro e w7 ⟨rfl, h7⟩
  have B7 : Below w.heap.size w w7 := below_via B6 h7
  clear h7 CLR
  go_wp2_with fail
  go_ret
  exact ⟨by simp, B7⟩
set_option maxRecDepth 100000 in
set_option maxHeartbeats 3200000 in
theorem pins_A0 (l : List (Int × Int)) (a : Option Addr) (cap : Nat) (m : Int) (w : World) (h : l.length ≤ 63) (hp : PrimesT w) (hs : TqAt w a l) (hl0 : l = []) : Calls Tryd.prog 5 #[.slice a l.length cap, .int .i64 m] w fun e w' => e = .returned (.bool true) ∧ Below w.heap.size w w' := by
  have AW := Lib.hid (awake7_any w hp); clear hp
  obtain ⟨iB, hiB, hzB0, hzB1, hzB2⟩ := info_parts infoTq
  have HX := Lib.hid (show ∃ E V0 V1, tqsE l = E ∧ (loV l m).1 = V0 ∧ (loV l m).2 = V1 from ⟨_, _, _, rfl, rfl, rfl⟩)
  obtain ⟨E, V0, V1, hE, hV0, hV1⟩ := HX.out
  have CL := Lib.hid (fun (n : Nat) a cap u (hn : n = l.length) (hu : TqAt u a l) => (show Calls Tryd.prog 25 #[.slice a n cap, .int .i64 m] u fun e w' => e = .returned (.tuple #[.int .i64 V0, .int .i64 V1]) ∧ Below u.heap.size u w' from by
    subst hn
    have h := looseOnT_any l a cap m u (by omega) hu
    rw [hV0, hV1] at h
    exact h))
  have CLR := Lib.hid (fun (n : Nat) u (hn : n = l.length) (hu : TqAt u a l) => (show Calls Tryd.prog 26 #[.slice a n cap, .int .i64 m] u fun e w' => e = .returned (.tuple #[.int .i64 V0, .int .i64 V1]) ∧ Below u.heap.size u w' from by
    subst hn
    have h := refLooseOn_any l a cap m u (by omega) hu
    rw [hV0, hV1] at h
    exact h))
  have CR := Lib.hid (fun (n : Nat) u (hn : n = l.length) (hu : TqAt u a l) => (show Calls Tryd.prog 24 #[.slice a n cap] u fun e w' => e = .returned (.int .i64 E) ∧ Below u.heap.size u w' from by
    subst hn
    have h := refCheckTorques_any l a cap u (by omega) hu
    rw [hE] at h
    exact h))
  have CC := Lib.hid (fun (n : Nat) a cap u (hn : n = l.length) (hu : TqAt u a l) => (show Calls Tryd.prog 23 #[.slice a n cap] u fun e w' => e = .returned (.int .i64 E) ∧ Below u.heap.size u w' from by
    subst hn
    have h := checkTorques_any l a cap u (by omega) hu
    rw [hE] at h
    exact h))
  have HS := Lib.hid hs
  clear hE hV0 hV1 HX hs
  subst hl0
  have hsB : ∀ u : World, Src Tryd.prog iB.size 36 (.slice a 0 cap) 0 [] u := fun u => by
    cases a with
    | none => exact Src.ofNil u Tryd.underlying36 cap
    | some x => exact Src.ofSlice u Tryd.underlying36 x 0 cap [] (by simp) (by simp) (by simp)
  have APB : ∀ (u : World) (ty : TypeId) (B : Nat), (Builtin.append_ #[36, 36] ty #[.slice (some ⟨B, 0, none⟩) 0 0, .slice a 0 cap]).run Tryd.prog u = .ok (.slice (some ⟨B, 0, none⟩) 0 0) u := fun u ty B =>
    run_append_nothing u 36 36 ty 114 iB Tryd.underlying36 hiB (some ⟨B, 0, none⟩) 0 0 (by omega) _ (hsB u)
  go_enter Tryd.func5, Tryd.ntmps5
  go_wp2_with fail
  refine AW.out.mono ?_
  rintro e w1 ⟨rfl, B1⟩
  have z1 := B1.size
  clear AW
  go_wp2_with (at_builtin; refine wpList_nothing rfl _ _ _ _ rfl _ _ rfl rfl (APB _ _ _) ?_)
  refine (CC.out _ _ _ _ (by simp [*]) (.inl rfl)).mono ?_
  rintro e w3 ⟨rfl, h3⟩
  have B3 : Below w.heap.size w w3 := below_via (by (repeat' (first | (with_reducible exact Below.refl _ _) | (with_reducible assumption) | (with_reducible refine Below.drew ?_) | (with_reducible refine below_drewN ?_ _) | (with_reducible refine Below.setCell ?_ ?_ _) | (with_reducible refine Below.alloc ?_ ?_ _) | go_size | omega))) h3
  have z3 := B3.size
  clear h3 CC
  go_wp2_with fail
  refine (CR.out _ _ (by simp [*]) (HS.out.keep B3)).mono ?_
  rintro e w4 ⟨rfl, h4⟩
  have B4 : Below w.heap.size w w4 := below_via B3 h4
  have z4 := B4.size
  clear h4 CR B3
  go_wp2_with (at_builtin; refine wpList_nothing rfl _ _ _ _ rfl _ _ rfl rfl (APB _ _ _) ?_)
  refine (CL.out _ _ _ _ (by simp [*]) (.inl rfl)).mono ?_
  rintro e w6 ⟨rfl, h6⟩
  have B6 : Below w.heap.size w w6 := below_via (by (repeat' (first | (with_reducible exact Below.refl _ _) | (with_reducible assumption) | (with_reducible refine Below.drew ?_) | (with_reducible refine below_drewN ?_ _) | (with_reducible refine Below.setCell ?_ ?_ _) | (with_reducible refine Below.alloc ?_ ?_ _) | go_size | omega))) h6
  have z6 := B6.size
  clear h6 CL
  go_wp2_with fail
  refine (CLR.out _ _ (by simp [*]) (HS.out.keep B6)).mono ?_
  rintro e w7 ⟨rfl, h7⟩
  have B7 : Below w.heap.size w w7 := below_via B6 h7
  clear h7 CLR
  go_wp2_with fail
  go_ret
  exact ⟨by simp, B7⟩
theorem lawPins (l : List (Int × Int)) (a : Option Addr) (cap : Nat) (m : Int) (w : World) (hp : PrimesT w) (hs : TqAt w a l) (hl : l.length ≤ 9223372036854775807) : Calls Tryd.prog 5 #[.slice a l.length cap, .int .i64 m] w fun e w' => e = .returned (.bool true) ∧ Below w.heap.size w w' := by
  by_cases h : l.length ≤ 63
  · by_cases hl0 : l = []
    · exact pins_A0 l a cap m w h hp hs hl0
    · exact pins_A l a cap m w h hp hs hl0
  · exact pins_long l a cap m w hl (by omega) hp
end Go.Proofs.YtnjlifmjjihahaaDoor
