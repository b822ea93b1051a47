/-
  The law UpkeepOverpulls. No condition but the primes.
-/
import Derived.Test.YtnjlifmjjihahaaDoorOvo
import Derived.Test.YtnjlifmjjihahaaDoorAw7
namespace Go.Proofs.YtnjlifmjjihahaaDoor
open Go.RowKit
theorem oaE_eq (l : List (Int × Int × Int)) (note : Int) : oaE l note = if ovE l ≠ 0 then ovE l else if inR note 0 87 = true then 0 else 2 := by
  unfold oaE rgE
  by_cases h : ovE l = 0
  · rw [h]; cases inR note 0 87 <;> rfl
  · rw [if_pos h]; simp [orV, h]
theorem ovE_bd : ∀ (l : List (Int × Int × Int)) (p : Int), 0 ≤ ovF p l ∧ ovF p l ≤ 9
  | [], _ => by simp [ovF]
  | x :: l, p => by
    have ih := ovE_bd l x.2.1
    have hr := roE_if x.1 x.2.1 x.2.2
    unfold ovF
    by_cases h : roE x.1 x.2.1 x.2.2 ≠ 0
    · rw [if_pos h, hr]; split <;> omega
    · rw [if_neg h]; split <;> omega
theorem ovE_wr (l : List (Int × Int × Int)) : 0 ≤ ovE l ∧ ovE l ≤ 9 := by
  unfold ovE; split
  · omega
  · exact ovE_bd l _
set_option maxHeartbeats 800000 in
theorem overpulls_long (l : List (Int × Int × Int)) (a : Option Addr) (cap : Nat) (note : Int) (w : World) (hl : l.length ≤ 9223372036854775807) (h : 23 < l.length) (hp : PrimesT w) : Calls Tryd.prog 4 #[.slice a l.length cap, .int .i64 note] w fun e w' => e = .returned (.bool true) ∧ Below w.heap.size w w' := by
  have AW := Lib.hid (awake7_any w hp); clear hp
  go_enter Tryd.func4, Tryd.ntmps4
  go_wp2_with fail
  refine AW.out.mono ?_
  rintro e w1 ⟨rfl, h1⟩
  go_wp2_with fail
  go_ret
  exact ⟨rfl, h1⟩
set_option maxRecDepth 100000 in
set_option maxHeartbeats 3200000 in
theorem overpulls_A (l : List (Int × Int × Int)) (a : Option Addr) (cap : Nat) (note : Int) (w : World) (h : l.length ≤ 23) (hp : PrimesT w) (hs : OvAt w a l) (hl0 : l ≠ []) (hE : ovE l ≠ 0) : Calls Tryd.prog 4 #[.slice a l.length cap, .int .i64 note] w fun e w' => e = .returned (.bool true) ∧ Below w.heap.size w w' := by
  have AW := Lib.hid (awake7_any w hp); clear hp
  obtain ⟨iB, hiB, hzB0, hzB1, hzB2⟩ := info_parts infoOv
  have hoa : oaV l note = (0, ovE l) := by unfold oaV; rw [oaE_eq, if_pos hE, if_neg hE]
  have HE := Lib.hid (show ∃ E, ovE l = E from ⟨_, rfl⟩)
  obtain ⟨E, hEE⟩ := HE.out
  have hbd := ovE_wr l
  rw [hEE] at hoa hE hbd
  have iE : IntKind.i64.wrap E = E := IntWalk.i64_in _ (by omega)
  have hE' : (E == 0) = false := by simpa using hE
  have hE2 : (E != 0) = true := by simpa using hE
  have CA := Lib.hid (fun (n : Nat) a cap u (hn : n = l.length) (hu : OvAt u a l) => (show Calls Tryd.prog 18 #[.slice a n cap, .int .i64 note] u fun e w' => e = .returned (.tuple #[.int .i64 0, .int .i64 E]) ∧ Below u.heap.size u w' from by
    subst hn
    have h := overpullAt_any l a cap note u (by omega) hu
    rw [hoa] at h
    exact h))
  have CR := Lib.hid (fun (n : Nat) u (hn : n = l.length) (hu : OvAt u a l) => (show Calls Tryd.prog 19 #[.slice a n cap] u fun e w' => e = .returned (.int .i64 E) ∧ Below u.heap.size u w' from by
    subst hn
    have h := refCheckOverpull_any l a cap u (by omega) hu
    rw [hEE] at h
    exact h))
  have CC := Lib.hid (fun (n : Nat) a cap u (hn : n = l.length) (hu : OvAt u a l) => (show Calls Tryd.prog 20 #[.slice a n cap] u fun e w' => e = .returned (.int .i64 E) ∧ Below u.heap.size u w' from by
    subst hn
    have h := checkOverpull_any l a cap u (by omega) hu
    rw [hEE] at h
    exact h))
  have HS := Lib.hid hs
  obtain ⟨b0, o0, rfl, hb0, hc0⟩ : ∃ b o, a = some ⟨b, o, none⟩ ∧ b < w.heap.size ∧ ∀ j (h : j < l.length), w.cell? ⟨b, o + j * 3, none⟩ = some (.int .i64 (l[j]).1) ∧ w.cell? ⟨b, o + j * 3 + 1, none⟩ = some (.int .i64 (l[j]).2.1) ∧ w.cell? ⟨b, o + j * 3 + 2, none⟩ = some (.int .i64 (l[j]).2.2) := by
    rcases hs with h | h
    · exact absurd h hl0
    · exact h
  have hnB : 0 < l.length := List.length_pos_iff.2 hl0
  have HCB := Lib.hid (show ∀ (v : World), Below w.heap.size w v → ∀ j u, (ovc l)[j]? = some u → (v.alloc (.cells #[] 112)).cell? ((⟨b0, o0, none⟩ : Addr).add j) = some u from fun v hv j u hu => by
    have h := ovc_cells hc0 j u hu
    rw [addr_add] at h ⊢
    exact (World.cell?_alloc_past _ _ _ (Nat.lt_of_lt_of_le hb0 hv.size)).trans ((hv.cell (p := ⟨b0, o0 + j, none⟩) hb0).trans h))
  clear hc0
  clear hs hE hEE hoa HE
  go_enter Tryd.func4, Tryd.ntmps4
  go_wp2_with fail
  refine AW.out.mono ?_
  rintro e w1 ⟨rfl, B1⟩
  have z1 := B1.size
  clear AW
  go_wp2_with (at_builtin; refine wpList_append_grows _ rfl _ _ 29 rfl 112 iB _ 3 24 Tryd.underlying29 hiB hzB0 hzB1 hzB2 rfl (by omega) (some ⟨w1.heap.size, 0, none⟩) 0 0 [] rfl (by intro e; cases e) rfl (by intro _ _ j u hu; simp at hu) ⟨b0, o0, none⟩ l.length cap (ovc l) rfl (ovc_len l) (HCB.out _ B1) (ovc_one l) (by omega) (by unfold maxLen; omega) (by omega) ?_; intro v' w2 hown hgrow; obtain ⟨g, c', rfl, hg0, hg1⟩ := hown.form (by omega); have BW : Below w1.heap.size w1 w2 := Below.grown (by (repeat' (first | (with_reducible exact Below.refl _ _) | (with_reducible assumption) | (with_reducible refine Below.drew ?_) | (with_reducible refine below_drewN ?_ _) | (with_reducible refine Below.setCell ?_ ?_ _) | (with_reducible refine Below.alloc ?_ ?_ _) | go_size | omega))) hgrow (by simp) (fun k e => by cases e); have Q2 := Lib.hid (show OvAt w2 (some ⟨g, 0, none⟩) l from ovAt_row hg1 (by simpa using hown)); have B2 : Below w.heap.size w w2 := below_via B1 BW; have z2 := B2.size; clear hown hgrow hg0 hg1 BW)
  refine (CA.out _ _ _ _ (by simp [*]) Q2.out).mono ?_
  rintro e w3 ⟨rfl, h3⟩
  have B3 : Below w.heap.size w w3 := below_via B2 h3
  have z3 := B3.size
  clear h3 CA Q2
  go_wp2_with fail
  refine (CR.out _ _ (by simp [*]) (HS.out.keep B3)).mono ?_
  rintro e w4 ⟨rfl, h4⟩
  have B4 : Below w.heap.size w w4 := below_via B3 h4
  have z4 := B4.size
  clear h4 CR B3
  go_wp2_with (at_builtin; refine wpList_append_grows _ rfl _ _ 29 rfl 112 iB _ 3 24 Tryd.underlying29 hiB hzB0 hzB1 hzB2 rfl (by omega) (some ⟨w4.heap.size, 0, none⟩) 0 0 [] rfl (by intro e; cases e) rfl (by intro _ _ j u hu; simp at hu) ⟨b0, o0, none⟩ l.length cap (ovc l) rfl (ovc_len l) (HCB.out _ B4) (ovc_one l) (by omega) (by unfold maxLen; omega) (by omega) ?_; intro v' w5 hown hgrow; obtain ⟨g, c', rfl, hg0, hg1⟩ := hown.form (by omega); have BW : Below w4.heap.size w4 w5 := Below.grown (by (repeat' (first | (with_reducible exact Below.refl _ _) | (with_reducible assumption) | (with_reducible refine Below.drew ?_) | (with_reducible refine below_drewN ?_ _) | (with_reducible refine Below.setCell ?_ ?_ _) | (with_reducible refine Below.alloc ?_ ?_ _) | go_size | omega))) hgrow (by simp) (fun k e => by cases e); have Q5 := Lib.hid (show OvAt w5 (some ⟨g, 0, none⟩) l from ovAt_row hg1 (by simpa using hown)); have B5 : Below w.heap.size w w5 := below_via B4 BW; have z5 := B5.size; clear hown hgrow hg0 hg1 BW)
  refine (CC.out _ _ _ _ (by simp [*]) Q5.out).mono ?_
  rintro e w6 ⟨rfl, h6⟩
  have B6 : Below w.heap.size w w6 := below_via B5 h6
  have z6 := B6.size
  clear h6 CC
  go_wp2_with fail
  go_ret
  exact ⟨rfl, B6⟩
set_option maxRecDepth 100000 in
set_option maxHeartbeats 3200000 in
theorem overpulls_B (l : List (Int × Int × Int)) (a : Option Addr) (cap : Nat) (note : Int) (w : World) (h : l.length ≤ 23) (hp : PrimesT w) (hs : OvAt w a l) (hl0 : l ≠ []) (hE : ovE l = 0) (hn : inR note 0 87 = false) : Calls Tryd.prog 4 #[.slice a l.length cap, .int .i64 note] w fun e w' => e = .returned (.bool true) ∧ Below w.heap.size w w' := by
  have AW := Lib.hid (awake7_any w hp); clear hp
  obtain ⟨iB, hiB, hzB0, hzB1, hzB2⟩ := info_parts infoOv
  have h0 : oaE l note = 2 := by rw [oaE_eq, hE, hn]; rfl
  have hoa : oaV l note = (0, 2) := by unfold oaV; rw [h0]; rfl
  clear h0
  have hEE := hE
  have CA := Lib.hid (fun (n : Nat) a cap u (hn : n = l.length) (hu : OvAt u a l) => (show Calls Tryd.prog 18 #[.slice a n cap, .int .i64 note] u fun e w' => e = .returned (.tuple #[.int .i64 0, .int .i64 2]) ∧ Below u.heap.size u w' from by
    subst hn
    have h := overpullAt_any l a cap note u (by omega) hu
    rw [hoa] at h
    exact h))
  have CR := Lib.hid (fun (n : Nat) u (hn : n = l.length) (hu : OvAt u a l) => (show Calls Tryd.prog 19 #[.slice a n cap] u fun e w' => e = .returned (.int .i64 0) ∧ Below u.heap.size u w' from by
    subst hn
    have h := refCheckOverpull_any l a cap u (by omega) hu
    rw [hEE] at h
    exact h))
  have CC := Lib.hid (fun (n : Nat) a cap u (hn : n = l.length) (hu : OvAt u a l) => (show Calls Tryd.prog 20 #[.slice a n cap] u fun e w' => e = .returned (.int .i64 0) ∧ Below u.heap.size u w' from by
    subst hn
    have h := checkOverpull_any l a cap u (by omega) hu
    rw [hEE] at h
    exact h))
  have CN := Lib.hid (fun u => isNote6_any note u)
  rw [hn] at CN
  have HS := Lib.hid hs
  obtain ⟨b0, o0, rfl, hb0, hc0⟩ : ∃ b o, a = some ⟨b, o, none⟩ ∧ b < w.heap.size ∧ ∀ j (h : j < l.length), w.cell? ⟨b, o + j * 3, none⟩ = some (.int .i64 (l[j]).1) ∧ w.cell? ⟨b, o + j * 3 + 1, none⟩ = some (.int .i64 (l[j]).2.1) ∧ w.cell? ⟨b, o + j * 3 + 2, none⟩ = some (.int .i64 (l[j]).2.2) := by
    rcases hs with h | h
    · exact absurd h hl0
    · exact h
  have hnB : 0 < l.length := List.length_pos_iff.2 hl0
  have HCB := Lib.hid (show ∀ (v : World), Below w.heap.size w v → ∀ j u, (ovc l)[j]? = some u → (v.alloc (.cells #[] 112)).cell? ((⟨b0, o0, none⟩ : Addr).add j) = some u from fun v hv j u hu => by
    have h := ovc_cells hc0 j u hu
    rw [addr_add] at h ⊢
    exact (World.cell?_alloc_past _ _ _ (Nat.lt_of_lt_of_le hb0 hv.size)).trans ((hv.cell (p := ⟨b0, o0 + j, none⟩) hb0).trans h))
  clear hc0
  clear hs hE hEE hoa hn
  go_enter Tryd.func4, Tryd.ntmps4
  go_wp2_with fail
  refine AW.out.mono ?_
  rintro e w1 ⟨rfl, B1⟩
  have z1 := B1.size
  clear AW
  go_wp2_with (at_builtin; refine wpList_append_grows _ rfl _ _ 29 rfl 112 iB _ 3 24 Tryd.underlying29 hiB hzB0 hzB1 hzB2 rfl (by omega) (some ⟨w1.heap.size, 0, none⟩) 0 0 [] rfl (by intro e; cases e) rfl (by intro _ _ j u hu; simp at hu) ⟨b0, o0, none⟩ l.length cap (ovc l) rfl (ovc_len l) (HCB.out _ B1) (ovc_one l) (by omega) (by unfold maxLen; omega) (by omega) ?_; intro v' w2 hown hgrow; obtain ⟨g, c', rfl, hg0, hg1⟩ := hown.form (by omega); have BW : Below w1.heap.size w1 w2 := Below.grown (by (repeat' (first | (with_reducible exact Below.refl _ _) | (with_reducible assumption) | (with_reducible refine Below.drew ?_) | (with_reducible refine below_drewN ?_ _) | (with_reducible refine Below.setCell ?_ ?_ _) | (with_reducible refine Below.alloc ?_ ?_ _) | go_size | omega))) hgrow (by simp) (fun k e => by cases e); have Q2 := Lib.hid (show OvAt w2 (some ⟨g, 0, none⟩) l from ovAt_row hg1 (by simpa using hown)); have B2 : Below w.heap.size w w2 := below_via B1 BW; have z2 := B2.size; clear hown hgrow hg0 hg1 BW)
  refine (CA.out _ _ _ _ (by simp [*]) Q2.out).mono ?_
  rintro e w3 ⟨rfl, h3⟩
  have B3 : Below w.heap.size w w3 := below_via B2 h3
  have z3 := B3.size
  clear h3 CA Q2
  go_wp2_with fail
  refine (CR.out _ _ (by simp [*]) (HS.out.keep B3)).mono ?_
  rintro e w4 ⟨rfl, h4⟩
  have B4 : Below w.heap.size w w4 := below_via B3 h4
  have z4 := B4.size
  clear h4 CR B3
  go_wp2_with (at_builtin; refine wpList_append_grows _ rfl _ _ 29 rfl 112 iB _ 3 24 Tryd.underlying29 hiB hzB0 hzB1 hzB2 rfl (by omega) (some ⟨w4.heap.size, 0, none⟩) 0 0 [] rfl (by intro e; cases e) rfl (by intro _ _ j u hu; simp at hu) ⟨b0, o0, none⟩ l.length cap (ovc l) rfl (ovc_len l) (HCB.out _ B4) (ovc_one l) (by omega) (by unfold maxLen; omega) (by omega) ?_; intro v' w5 hown hgrow; obtain ⟨g, c', rfl, hg0, hg1⟩ := hown.form (by omega); have BW : Below w4.heap.size w4 w5 := Below.grown (by (repeat' (first | (with_reducible exact Below.refl _ _) | (with_reducible assumption) | (with_reducible refine Below.drew ?_) | (with_reducible refine below_drewN ?_ _) | (with_reducible refine Below.setCell ?_ ?_ _) | (with_reducible refine Below.alloc ?_ ?_ _) | go_size | omega))) hgrow (by simp) (fun k e => by cases e); have Q5 := Lib.hid (show OvAt w5 (some ⟨g, 0, none⟩) l from ovAt_row hg1 (by simpa using hown)); have B5 : Below w.heap.size w w5 := below_via B4 BW; have z5 := B5.size; clear hown hgrow hg0 hg1 BW)
  refine (CC.out _ _ _ _ (by simp [*]) Q5.out).mono ?_
  rintro e w6 ⟨rfl, h6⟩
  have B6 : Below w.heap.size w w6 := below_via B5 h6
  have z6 := B6.size
  clear h6 CC
  go_wp2_with (go_at_call 21; refine (CN.out _).mono ?_; rintro e w' ⟨rfl, rfl⟩)
  go_ret
  exact ⟨rfl, B6⟩
set_option maxRecDepth 100000 in
set_option maxHeartbeats 3200000 in
theorem overpulls_C (l : List (Int × Int × Int)) (a : Option Addr) (cap : Nat) (note : Int) (w : World) (h : l.length ≤ 23) (hp : PrimesT w) (hs : OvAt w a l) (hl0 : l ≠ []) (hE : ovE l = 0) (hn : inR note 0 87 = true) : Calls Tryd.prog 4 #[.slice a l.length cap, .int .i64 note] w fun e w' => e = .returned (.bool true) ∧ Below w.heap.size w w' := by
  have AW := Lib.hid (awake7_any w hp); clear hp
  obtain ⟨iB, hiB, hzB0, hzB1, hzB2⟩ := info_parts infoOv
  have h0 : oaE l note = 0 := by rw [oaE_eq, hE, hn]; rfl
  have hoa : oaV l note = (ovN note l, 0) := by unfold oaV; rw [h0]; rfl
  clear h0
  have hEE := hE
  have HV := Lib.hid (show ∃ V, ovN note l = V from ⟨_, rfl⟩)
  obtain ⟨V, hV⟩ := HV.out
  rw [hV] at hoa
  have CA := Lib.hid (fun (n : Nat) a cap u (hn : n = l.length) (hu : OvAt u a l) => (show Calls Tryd.prog 18 #[.slice a n cap, .int .i64 note] u fun e w' => e = .returned (.tuple #[.int .i64 V, .int .i64 0]) ∧ Below u.heap.size u w' from by
    subst hn
    have h := overpullAt_any l a cap note u (by omega) hu
    rw [hoa] at h
    exact h))
  have CR := Lib.hid (fun (n : Nat) u (hn : n = l.length) (hu : OvAt u a l) => (show Calls Tryd.prog 19 #[.slice a n cap] u fun e w' => e = .returned (.int .i64 0) ∧ Below u.heap.size u w' from by
    subst hn
    have h := refCheckOverpull_any l a cap u (by omega) hu
    rw [hEE] at h
    exact h))
  have CC := Lib.hid (fun (n : Nat) a cap u (hn : n = l.length) (hu : OvAt u a l) => (show Calls Tryd.prog 20 #[.slice a n cap] u fun e w' => e = .returned (.int .i64 0) ∧ Below u.heap.size u w' from by
    subst hn
    have h := checkOverpull_any l a cap u (by omega) hu
    rw [hEE] at h
    exact h))
  have CN := Lib.hid (fun u => isNote6_any note u)
  rw [hn] at CN
  have CO := Lib.hid (fun (n : Nat) u (hn : n = l.length) (hu : OvAt u a l) => (show Calls Tryd.prog 22 #[.slice a n cap, .int .i64 note] u fun e w' => e = .returned (.int .i64 V) ∧ Below u.heap.size u w' from by
    subst hn
    have h := refOverpullAt_any l a cap note u (by omega) hu
    rw [hV] at h
    exact h))
  have HS := Lib.hid hs
  obtain ⟨b0, o0, rfl, hb0, hc0⟩ : ∃ b o, a = some ⟨b, o, none⟩ ∧ b < w.heap.size ∧ ∀ j (h : j < l.length), w.cell? ⟨b, o + j * 3, none⟩ = some (.int .i64 (l[j]).1) ∧ w.cell? ⟨b, o + j * 3 + 1, none⟩ = some (.int .i64 (l[j]).2.1) ∧ w.cell? ⟨b, o + j * 3 + 2, none⟩ = some (.int .i64 (l[j]).2.2) := by
    rcases hs with h | h
    · exact absurd h hl0
    · exact h
  have hnB : 0 < l.length := List.length_pos_iff.2 hl0
  have HCB := Lib.hid (show ∀ (v : World), Below w.heap.size w v → ∀ j u, (ovc l)[j]? = some u → (v.alloc (.cells #[] 112)).cell? ((⟨b0, o0, none⟩ : Addr).add j) = some u from fun v hv j u hu => by
    have h := ovc_cells hc0 j u hu
    rw [addr_add] at h ⊢
    exact (World.cell?_alloc_past _ _ _ (Nat.lt_of_lt_of_le hb0 hv.size)).trans ((hv.cell (p := ⟨b0, o0 + j, none⟩) hb0).trans h))
  clear hc0
  clear hs hE hEE hoa hn hV HV
  go_enter Tryd.func4, Tryd.ntmps4
  go_wp2_with fail
  refine AW.out.mono ?_
  rintro e w1 ⟨rfl, B1⟩
  have z1 := B1.size
  clear AW
  go_wp2_with (at_builtin; refine wpList_append_grows _ rfl _ _ 29 rfl 112 iB _ 3 24 Tryd.underlying29 hiB hzB0 hzB1 hzB2 rfl (by omega) (some ⟨w1.heap.size, 0, none⟩) 0 0 [] rfl (by intro e; cases e) rfl (by intro _ _ j u hu; simp at hu) ⟨b0, o0, none⟩ l.length cap (ovc l) rfl (ovc_len l) (HCB.out _ B1) (ovc_one l) (by omega) (by unfold maxLen; omega) (by omega) ?_; intro v' w2 hown hgrow; obtain ⟨g, c', rfl, hg0, hg1⟩ := hown.form (by omega); have BW : Below w1.heap.size w1 w2 := Below.grown (by (repeat' (first | (with_reducible exact Below.refl _ _) | (with_reducible assumption) | (with_reducible refine Below.drew ?_) | (with_reducible refine below_drewN ?_ _) | (with_reducible refine Below.setCell ?_ ?_ _) | (with_reducible refine Below.alloc ?_ ?_ _) | go_size | omega))) hgrow (by simp) (fun k e => by cases e); have Q2 := Lib.hid (show OvAt w2 (some ⟨g, 0, none⟩) l from ovAt_row hg1 (by simpa using hown)); have B2 : Below w.heap.size w w2 := below_via B1 BW; have z2 := B2.size; clear hown hgrow hg0 hg1 BW)
  refine (CA.out _ _ _ _ (by simp [*]) Q2.out).mono ?_
  rintro e w3 ⟨rfl, h3⟩
  have B3 : Below w.heap.size w w3 := below_via B2 h3
  have z3 := B3.size
  clear h3 CA Q2
  go_wp2_with fail
  refine (CR.out _ _ (by simp [*]) (HS.out.keep B3)).mono ?_
  rintro e w4 ⟨rfl, h4⟩
  have B4 : Below w.heap.size w w4 := below_via B3 h4
  have z4 := B4.size
  clear h4 CR B3
  go_wp2_with (at_builtin; refine wpList_append_grows _ rfl _ _ 29 rfl 112 iB _ 3 24 Tryd.underlying29 hiB hzB0 hzB1 hzB2 rfl (by omega) (some ⟨w4.heap.size, 0, none⟩) 0 0 [] rfl (by intro e; cases e) rfl (by intro _ _ j u hu; simp at hu) ⟨b0, o0, none⟩ l.length cap (ovc l) rfl (ovc_len l) (HCB.out _ B4) (ovc_one l) (by omega) (by unfold maxLen; omega) (by omega) ?_; intro v' w5 hown hgrow; obtain ⟨g, c', rfl, hg0, hg1⟩ := hown.form (by omega); have BW : Below w4.heap.size w4 w5 := Below.grown (by (repeat' (first | (with_reducible exact Below.refl _ _) | (with_reducible assumption) | (with_reducible refine Below.drew ?_) | (with_reducible refine below_drewN ?_ _) | (with_reducible refine Below.setCell ?_ ?_ _) | (with_reducible refine Below.alloc ?_ ?_ _) | go_size | omega))) hgrow (by simp) (fun k e => by cases e); have Q5 := Lib.hid (show OvAt w5 (some ⟨g, 0, none⟩) l from ovAt_row hg1 (by simpa using hown)); have B5 : Below w.heap.size w w5 := below_via B4 BW; have z5 := B5.size; clear hown hgrow hg0 hg1 BW)
  refine (CC.out _ _ _ _ (by simp [*]) Q5.out).mono ?_
  rintro e w6 ⟨rfl, h6⟩
  have B6 : Below w.heap.size w w6 := below_via B5 h6
  have z6 := B6.size
  clear h6 CC
  go_wp2_with (go_at_call 21; refine (CN.out _).mono ?_; rintro e w' ⟨rfl, hw'⟩; have hw' := hw'.symm; subst hw')
  refine (CO.out _ _ (by simp [*]) (HS.out.keep B6)).mono ?_
  rintro e w7 ⟨rfl, h7⟩
  have B7 : Below w.heap.size w w7 := below_via B6 h7
  clear h7
  go_wp2_with fail
  go_ret
  exact ⟨by simp, B7⟩
set_option maxRecDepth 100000 in
set_option maxHeartbeats 3200000 in
theorem overpulls_B0 (l : List (Int × Int × Int)) (a : Option Addr) (cap : Nat) (note : Int) (w : World) (h : l.length ≤ 23) (hp : PrimesT w) (hs : OvAt w a l) (hl0 : l = []) (hE : ovE l = 0) (hn : inR note 0 87 = false) : Calls Tryd.prog 4 #[.slice a l.length cap, .int .i64 note] w fun e w' => e = .returned (.bool true) ∧ Below w.heap.size w w' := by
  have AW := Lib.hid (awake7_any w hp); clear hp
  obtain ⟨iB, hiB, hzB0, hzB1, hzB2⟩ := info_parts infoOv
  have h0 : oaE l note = 2 := by rw [oaE_eq, hE, hn]; rfl
  have hoa : oaV l note = (0, 2) := by unfold oaV; rw [h0]; rfl
  clear h0
  have hEE := hE
  have CA := Lib.hid (fun (n : Nat) a cap u (hn : n = l.length) (hu : OvAt u a l) => (show Calls Tryd.prog 18 #[.slice a n cap, .int .i64 note] u fun e w' => e = .returned (.tuple #[.int .i64 0, .int .i64 2]) ∧ Below u.heap.size u w' from by
    subst hn
    have h := overpullAt_any l a cap note u (by omega) hu
    rw [hoa] at h
    exact h))
  have CR := Lib.hid (fun (n : Nat) u (hn : n = l.length) (hu : OvAt u a l) => (show Calls Tryd.prog 19 #[.slice a n cap] u fun e w' => e = .returned (.int .i64 0) ∧ Below u.heap.size u w' from by
    subst hn
    have h := refCheckOverpull_any l a cap u (by omega) hu
    rw [hEE] at h
    exact h))
  have CC := Lib.hid (fun (n : Nat) a cap u (hn : n = l.length) (hu : OvAt u a l) => (show Calls Tryd.prog 20 #[.slice a n cap] u fun e w' => e = .returned (.int .i64 0) ∧ Below u.heap.size u w' from by
    subst hn
    have h := checkOverpull_any l a cap u (by omega) hu
    rw [hEE] at h
    exact h))
  have CN := Lib.hid (fun u => isNote6_any note u)
  rw [hn] at CN
  have HS := Lib.hid hs
  subst hl0
  have hsB : ∀ u : World, Src Tryd.prog iB.size 29 (.slice a 0 cap) 0 [] u := fun u => by
    cases a with
    | none => exact Src.ofNil u Tryd.underlying29 cap
    | some x => exact Src.ofSlice u Tryd.underlying29 x 0 cap [] (by simp) (by simp) (by simp)
  have APB : ∀ (u : World) (ty : TypeId) (B : Nat), (Builtin.append_ #[29, 29] ty #[.slice (some ⟨B, 0, none⟩) 0 0, .slice a 0 cap]).run Tryd.prog u = .ok (.slice (some ⟨B, 0, none⟩) 0 0) u := fun u ty B =>
    run_append_nothing u 29 29 ty 112 iB Tryd.underlying29 hiB (some ⟨B, 0, none⟩) 0 0 (by omega) _ (hsB u)
  clear hs hE hEE hoa hn
  go_enter Tryd.func4, Tryd.ntmps4
  go_wp2_with fail
  refine AW.out.mono ?_
  rintro e w1 ⟨rfl, B1⟩
  have z1 := B1.size
  clear AW
  go_wp2_with (at_builtin; refine wpList_nothing rfl _ _ _ _ rfl _ _ rfl rfl (APB _ _ _) ?_)
  refine (CA.out _ _ _ _ (by simp [*]) (.inl rfl)).mono ?_
  rintro e w3 ⟨rfl, h3⟩
  have B3 : Below w.heap.size w w3 := below_via (by (repeat' (first | (with_reducible exact Below.refl _ _) | (with_reducible assumption) | (with_reducible refine Below.drew ?_) | (with_reducible refine below_drewN ?_ _) | (with_reducible refine Below.setCell ?_ ?_ _) | (with_reducible refine Below.alloc ?_ ?_ _) | go_size | omega))) h3
  have z3 := B3.size
  clear h3 CA
  go_wp2_with fail
  refine (CR.out _ _ (by simp [*]) (HS.out.keep B3)).mono ?_
  rintro e w4 ⟨rfl, h4⟩
  have B4 : Below w.heap.size w w4 := below_via B3 h4
  have z4 := B4.size
  clear h4 CR B3
  go_wp2_with (at_builtin; refine wpList_nothing rfl _ _ _ _ rfl _ _ rfl rfl (APB _ _ _) ?_)
  refine (CC.out _ _ _ _ (by simp [*]) (.inl rfl)).mono ?_
  rintro e w6 ⟨rfl, h6⟩
  have B6 : Below w.heap.size w w6 := below_via (by (repeat' (first | (with_reducible exact Below.refl _ _) | (with_reducible assumption) | (with_reducible refine Below.drew ?_) | (with_reducible refine below_drewN ?_ _) | (with_reducible refine Below.setCell ?_ ?_ _) | (with_reducible refine Below.alloc ?_ ?_ _) | go_size | omega))) h6
  have z6 := B6.size
  clear h6 CC
  go_wp2_with (go_at_call 21; refine (CN.out _).mono ?_; rintro e w' ⟨rfl, rfl⟩)
  go_ret
  exact ⟨rfl, B6⟩
set_option maxRecDepth 100000 in
set_option maxHeartbeats 3200000 in
theorem overpulls_C0 (l : List (Int × Int × Int)) (a : Option Addr) (cap : Nat) (note : Int) (w : World) (h : l.length ≤ 23) (hp : PrimesT w) (hs : OvAt w a l) (hl0 : l = []) (hE : ovE l = 0) (hn : inR note 0 87 = true) : Calls Tryd.prog 4 #[.slice a l.length cap, .int .i64 note] w fun e w' => e = .returned (.bool true) ∧ Below w.heap.size w w' := by
  have AW := Lib.hid (awake7_any w hp); clear hp
  obtain ⟨iB, hiB, hzB0, hzB1, hzB2⟩ := info_parts infoOv
  have h0 : oaE l note = 0 := by rw [oaE_eq, hE, hn]; rfl
  have hoa : oaV l note = (ovN note l, 0) := by unfold oaV; rw [h0]; rfl
  clear h0
  have hEE := hE
  have HV := Lib.hid (show ∃ V, ovN note l = V from ⟨_, rfl⟩)
  obtain ⟨V, hV⟩ := HV.out
  rw [hV] at hoa
  have CA := Lib.hid (fun (n : Nat) a cap u (hn : n = l.length) (hu : OvAt u a l) => (show Calls Tryd.prog 18 #[.slice a n cap, .int .i64 note] u fun e w' => e = .returned (.tuple #[.int .i64 V, .int .i64 0]) ∧ Below u.heap.size u w' from by
    subst hn
    have h := overpullAt_any l a cap note u (by omega) hu
    rw [hoa] at h
    exact h))
  have CR := Lib.hid (fun (n : Nat) u (hn : n = l.length) (hu : OvAt u a l) => (show Calls Tryd.prog 19 #[.slice a n cap] u fun e w' => e = .returned (.int .i64 0) ∧ Below u.heap.size u w' from by
    subst hn
    have h := refCheckOverpull_any l a cap u (by omega) hu
    rw [hEE] at h
    exact h))
  have CC := Lib.hid (fun (n : Nat) a cap u (hn : n = l.length) (hu : OvAt u a l) => (show Calls Tryd.prog 20 #[.slice a n cap] u fun e w' => e = .returned (.int .i64 0) ∧ Below u.heap.size u w' from by
    subst hn
    have h := checkOverpull_any l a cap u (by omega) hu
    rw [hEE] at h
    exact h))
  have CN := Lib.hid (fun u => isNote6_any note u)
  rw [hn] at CN
  have CO := Lib.hid (fun (n : Nat) u (hn : n = l.length) (hu : OvAt u a l) => (show Calls Tryd.prog 22 #[.slice a n cap, .int .i64 note] u fun e w' => e = .returned (.int .i64 V) ∧ Below u.heap.size u w' from by
    subst hn
    have h := refOverpullAt_any l a cap note u (by omega) hu
    rw [hV] at h
    exact h))
  have HS := Lib.hid hs
  subst hl0
  have hsB : ∀ u : World, Src Tryd.prog iB.size 29 (.slice a 0 cap) 0 [] u := fun u => by
    cases a with
    | none => exact Src.ofNil u Tryd.underlying29 cap
    | some x => exact Src.ofSlice u Tryd.underlying29 x 0 cap [] (by simp) (by simp) (by simp)
  have APB : ∀ (u : World) (ty : TypeId) (B : Nat), (Builtin.append_ #[29, 29] ty #[.slice (some ⟨B, 0, none⟩) 0 0, .slice a 0 cap]).run Tryd.prog u = .ok (.slice (some ⟨B, 0, none⟩) 0 0) u := fun u ty B =>
    run_append_nothing u 29 29 ty 112 iB Tryd.underlying29 hiB (some ⟨B, 0, none⟩) 0 0 (by omega) _ (hsB u)
  clear hs hE hEE hoa hn hV HV
  go_enter Tryd.func4, Tryd.ntmps4
  go_wp2_with fail
  refine AW.out.mono ?_
  rintro e w1 ⟨rfl, B1⟩
  have z1 := B1.size
  clear AW
  go_wp2_with (at_builtin; refine wpList_nothing rfl _ _ _ _ rfl _ _ rfl rfl (APB _ _ _) ?_)
  refine (CA.out _ _ _ _ (by simp [*]) (.inl rfl)).mono ?_
  rintro e w3 ⟨rfl, h3⟩
  have B3 : Below w.heap.size w w3 := below_via (by (repeat' (first | (with_reducible exact Below.refl _ _) | (with_reducible assumption) | (with_reducible refine Below.drew ?_) | (with_reducible refine below_drewN ?_ _) | (with_reducible refine Below.setCell ?_ ?_ _) | (with_reducible refine Below.alloc ?_ ?_ _) | go_size | omega))) h3
  have z3 := B3.size
  clear h3 CA
  go_wp2_with fail
  refine (CR.out _ _ (by simp [*]) (HS.out.keep B3)).mono ?_
  rintro e w4 ⟨rfl, h4⟩
  have B4 : Below w.heap.size w w4 := below_via B3 h4
  have z4 := B4.size
  clear h4 CR B3
  go_wp2_with (at_builtin; refine wpList_nothing rfl _ _ _ _ rfl _ _ rfl rfl (APB _ _ _) ?_)
  refine (CC.out _ _ _ _ (by simp [*]) (.inl rfl)).mono ?_
  rintro e w6 ⟨rfl, h6⟩
  have B6 : Below w.heap.size w w6 := below_via (by (repeat' (first | (with_reducible exact Below.refl _ _) | (with_reducible assumption) | (with_reducible refine Below.drew ?_) | (with_reducible refine below_drewN ?_ _) | (with_reducible refine Below.setCell ?_ ?_ _) | (with_reducible refine Below.alloc ?_ ?_ _) | go_size | omega))) h6
  have z6 := B6.size
  clear h6 CC
  go_wp2_with (go_at_call 21; refine (CN.out _).mono ?_; rintro e w' ⟨rfl, hw'⟩; have hw' := hw'.symm; subst hw')
  refine (CO.out _ _ (by simp [*]) (HS.out.keep B6)).mono ?_
  rintro e w7 ⟨rfl, h7⟩
  have B7 : Below w.heap.size w w7 := below_via B6 h7
  clear h7
  go_wp2_with fail
  go_ret
  exact ⟨by simp, B7⟩
theorem lawOverpulls (l : List (Int × Int × Int)) (a : Option Addr) (cap : Nat) (note : Int) (w : World) (hp : PrimesT w) (hs : OvAt w a l) (hl : l.length ≤ 9223372036854775807) : Calls Tryd.prog 4 #[.slice a l.length cap, .int .i64 note] w fun e w' => e = .returned (.bool true) ∧ Below w.heap.size w w' := by
  by_cases h : l.length ≤ 23
  · by_cases hE : ovE l = 0
    · cases hn : inR note 0 87 with
      | false =>
        by_cases hl0 : l = []
        · exact overpulls_B0 l a cap note w h hp hs hl0 hE hn
        · exact overpulls_B l a cap note w h hp hs hl0 hE hn
      | true =>
        by_cases hl0 : l = []
        · exact overpulls_C0 l a cap note w h hp hs hl0 hE hn
        · exact overpulls_C l a cap note w h hp hs hl0 hE hn
    · refine overpulls_A l a cap note w h hp hs (fun e => hE ?_) hE
      subst e; rfl
  · exact overpulls_long l a cap note w hl (by omega) hp
end Go.Proofs.YtnjlifmjjihahaaDoor
