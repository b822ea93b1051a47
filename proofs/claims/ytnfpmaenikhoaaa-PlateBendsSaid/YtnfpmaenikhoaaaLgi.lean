/-
  The law PlateGirders.
-/
import Derived.Test.YtnfpmaenikhoaaaGrf
import Derived.Test.YtnfpmaenikhoaaaAwk3
import Derived.ChangeKeysEq
import Derived.Laws.StructEq
import Derived.Deep.DeepCutAuto
namespace Go.Proofs.Ytnfpmaenikhoaaa
open Go.RowKit
theorem eqFr2 (a0 a1 a2 a3 b0 b1 b2 b3 : Int) (w : World) :
    (Op.equalIn 10000 67 (fr2 a0 a1 a2 a3) (fr2 b0 b1 b2 b3)).run Try.prog w = .ok ((a0 == b0 && a1 == b1) && (a2 == b2 && a3 == b3)) w := by
  have hi : ∃ i, Try.prog.info? 65 = some i := by
    cases h : Try.prog.info? 65 with
    | none => exact absurd h (by decide +kernel)
    | some i => exact ⟨i, rfl⟩
  obtain ⟨i, hi⟩ := hi
  have hc : Try.prog.cellsOf 65 = 2 := by kernel_rfl
  unfold fr2
  rw [show (10000 : Nat) = 9999 + 1 from rfl, run_equalIn_array w 9999 _ _ Try.underlying67 hi, hc, show List.range 2 = [0, 1] from rfl]
  simp [Op.eqItems, go_sem]
  by_cases h0 : a0 = b0
  · by_cases h1 : a1 = b1
    · by_cases h2 : a2 = b2 <;> by_cases h3 : a3 = b3 <;> simp [h0, h1, h2, h3]
    · simp [h0, h1]
  · simp [h0]
theorem liUp {w w' : World} {sv : Value} {L : List (Int × Int)} (h : LoadsIn w.heap.size w sv L) (hb : Below w.heap.size w w') : LoadsIn w'.heap.size w' sv L := by
  rcases h with h | ⟨b, o, c, e1, e2, e3⟩
  · exact .inl h
  · exact .inr ⟨b, o, c, e1, Nat.lt_of_lt_of_le e2 hb.size, e3.below hb e2⟩
def girE (A B M : Int) (L : List (Int × Int)) : Int := if chkG A B M ≠ 0 then chkG A B M else chkL A B L
theorem girE_wrap (A B M : Int) (L : List (Int × Int)) : IntKind.i64.wrap (girE A B M L) = girE A B M L := by
  have h1 : chkG A B M = 0 ∨ chkG A B M = 2 ∨ chkG A B M = 9 := by
    unfold chkG; split
    · split
      · exact .inl rfl
      · exact .inr (.inr rfl)
    · exact .inr (.inl rfl)
  have h2 : ∀ L, chkY A B L = 0 ∨ chkY A B L = 2 := by
    intro L
    induction L with
    | nil => exact .inl rfl
    | cons y r ih =>
      show (if badY A B y then (2 : Int) else chkY A B r) = 0 ∨ (if badY A B y then (2 : Int) else chkY A B r) = 2
      cases badY A B y
      · simpa using ih
      · exact .inr rfl
  unfold girE chkL
  split
  · rcases h1 with h | h | h <;> rw [h] <;> rfl
  · split
    · rfl
    · rcases h2 L with h | h <;> rw [h] <;> rfl
theorem reaB_any (A B M E : Int) (L : List (Int × Int)) (a : Option Addr) (cap : Nat) (w : World) (hl : L.length ≤ 400) (hE : girE A B M L = E) (hne : E ≠ 0) (hp : LoadsIn w.heap.size w (.slice a L.length cap) L) :
    Calls Try.prog 41 #[gir A B M, .slice a L.length cap] w fun e w' => e = .returned (.tuple #[fr2 0 0 0 0, .int .i64 E]) ∧ Below w.heap.size w w' := by
  by_cases h1 : chkG A B M = 0
  · have h2 : chkL A B L = E := by unfold girE at hE; rwa [if_neg (by simpa using h1)] at hE
    refine reaBad_any E A B M A B M a L.length cap a L.length cap w hne (Lib.hid fun u hu => ?_)
    have := ladenOk_any A B M L a cap u (by omega) h1 ((LoadsIn.toAt hp (Nat.le_refl _)).1.keep hu)
    rwa [h2] at this
  · have h2 : chkG A B M = E := by unfold girE at hE; rwa [if_pos h1] at hE
    exact reaBad_any E A B M 0 0 0 none 0 0 a L.length cap w hne (Lib.hid fun u _ => ladenBad_any E A B M a L.length cap u h2 hne)
set_option maxRecDepth 100000 in
set_option maxHeartbeats 3200000 in
theorem gcheck_any (A B M : Int) (L : List (Int × Int)) (a : Option Addr) (cap : Nat) (w : World) (hl : L.length ≤ 400) (hp : LdAt w a L) :
    Calls Try.prog 44 #[gir A B M, .slice a L.length cap] w fun e w' => e = .returned (.int .i64 (girE A B M L)) ∧ Below w.heap.size w w' := by
  have CK := Lib.hid (fun u => rchkG_any A B M u)
  have CL := Lib.hid (fun (u : World) (h : LdAt u a L) => rchkL_any A B L a cap u (by omega) h)
  have HP := Lib.hid hp; clear hp
  by_cases h1 : chkG A B M = 0
  · have F := Lib.hid (show girE A B M L = chkL A B L by unfold girE; rw [if_neg (by simpa using h1)])
    rw [h1] at CK
    clear h1
    generalize chkL A B L = E at *
    go_enter Try.func44, Try.ntmps44
    go_wp2_with fail
    refine (CK.out _).mono ?_
    rintro e w1 ⟨rfl, h⟩
    have B1 : Below w.heap.size w w1 := below_via (by (repeat' (first | (with_reducible exact Below.refl _ _) | (with_reducible assumption) | (with_reducible refine Below.drew ?_) | (with_reducible refine below_drewN ?_ _) | (with_reducible refine Below.setCell ?_ ?_ _) | (with_reducible refine Below.alloc ?_ ?_ _) | go_size | omega))) h
    have G1 := Lib.hid ((Box.new w #[.int .i64 A, .int .i64 B, .int .i64 M] 71 (n := w.heap.size) rfl).keep h)
    clear h CK
    obtain ⟨g0, g1, g2, -⟩ := G1.out.three
    have lg := G1.out.lt
    go_wp2_with fail
    refine (CL.out _ (HP.out.keep B1)).mono ?_
    rintro e w2 ⟨rfl, h⟩
    have B2 := below_via B1 h
    clear h g0 g1 g2
    go_wp2_with fail
    go_ret
    exact ⟨ret_int (by rw [F.out]), B2⟩
  · have F := Lib.hid (show girE A B M L = chkG A B M by unfold girE; rw [if_pos h1])
    have hb : (chkG A B M == 0) = false := by simpa using h1
    clear h1 CL
    generalize chkG A B M = E at *
    go_enter Try.func44, Try.ntmps44
    go_wp2_with fail
    refine (CK.out _).mono ?_
    rintro e w1 ⟨rfl, h⟩
    have B1 : Below w.heap.size w w1 := below_via (by (repeat' (first | (with_reducible exact Below.refl _ _) | (with_reducible assumption) | (with_reducible refine Below.drew ?_) | (with_reducible refine below_drewN ?_ _) | (with_reducible refine Below.setCell ?_ ?_ _) | (with_reducible refine Below.alloc ?_ ?_ _) | go_size | omega))) h
    clear h CK
    go_wp2_with fail
    go_ret
    exact ⟨ret_int (by rw [F.out]), B1⟩
set_option maxRecDepth 100000 in
set_option maxHeartbeats 3200000 in
theorem girder_A (A B M : Int) (L : List (Int × Int)) (a : Option Addr) (cap : Nat) (w : World) (hl : L.length ≤ 9223372036854775807) (hp : LdAt w a L) (hsm : smL L = false) :
    Calls Try.prog 9 #[gir A B M, .slice a L.length cap] w fun e w' => e = .returned (.bool true) ∧ Below w.heap.size w w' := by
  have AW := Lib.hid (fun u => awake3_any u)
  have CF := Lib.hid (fun u => some_any L a cap u hl)
  rw [hsm] at CF
  have HP := Lib.hid hp; clear hp hsm
  go_enter Try.func9, Try.ntmps9
  go_wp2_with fail
  refine (AW.out _).mono ?_
  rintro e w1 ⟨rfl, h⟩
  have B1 : Below w.heap.size w w1 := below_via (by (repeat' (first | (with_reducible exact Below.refl _ _) | (with_reducible assumption) | (with_reducible refine Below.drew ?_) | (with_reducible refine below_drewN ?_ _) | (with_reducible refine Below.setCell ?_ ?_ _) | (with_reducible refine Below.alloc ?_ ?_ _) | go_size | omega))) h
  have G1 := Lib.hid ((Box.new w #[.int .i64 A, .int .i64 B, .int .i64 M] 71 (n := w.heap.size) rfl).keep h)
  have z1 := h.size
  simp at z1
  clear h AW
  go_wp2_with fail
  refine (CF.out _).mono ?_
  rintro e w2 ⟨rfl, h⟩
  have B2 : Below w.heap.size w w2 := below_via B1 h
  have G2 := Lib.hid (G1.out.keep h)
  have z2 := h.size
  clear h G1 CF
  go_wp2_with fail
  go_ret
  exact ⟨rfl, B2⟩
set_option maxRecDepth 100000 in
set_option maxHeartbeats 3200000 in
theorem girder_D (A B M E V0 V1 V2 V3 : Int) (L : List (Int × Int)) (a : Option Addr) (cap : Nat) (w : World) (hl : L.length ≤ 9223372036854775807) (hp : LdAt w a L) (hsm : smL L = true) (hE : girE A B M L = E) (hV : E ≠ 0 → V0 = 0 ∧ V1 = 0 ∧ V2 = 0 ∧ V3 = 0)
    (CR : Hid (∀ (b' cap' : Nat) (u : World), LoadsIn u.heap.size u (.slice (some ⟨b', 0, none⟩) L.length cap') L → Calls Try.prog 41 #[gir A B M, .slice (some ⟨b', 0, none⟩) L.length cap'] u fun e w' => e = .returned (.tuple #[fr2 V0 V1 V2 V3, .int .i64 E]) ∧ Below u.heap.size u w'))
    (RR : Hid (∀ (u : World), E = 0 → LdAt u a L → Calls Try.prog 45 #[gir A B M, .slice a L.length cap] u fun e w' => e = .returned (fr2 V0 V1 V2 V3) ∧ Below u.heap.size u w')) :
    Calls Try.prog 9 #[gir A B M, .slice a L.length cap] w fun e w' => e = .returned (.bool true) ∧ Below w.heap.size w w' := by
  have hl4 : L.length ≤ 400 := by unfold smL at hsm; simp at hsm; omega
  have iE : IntKind.i64.wrap E = E := by rw [← hE]; exact girE_wrap A B M L
  have CC := Lib.hid (fun (u : World) (h : LdAt u a L) => loads_any L a cap u hl4 h)
  have CK := Lib.hid (fun (u : World) (h : LdAt u a L) => gcheck_any A B M L a cap u hl4 h)
  rw [hE] at CK
  have CG := Lib.hid (fun u => chkG_any A B M u)
  have CH := Lib.hid (fun u => rchkG_any A B M u)
  have iG : IntKind.i64.wrap (chkG A B M) = chkG A B M := by
    unfold chkG; split
    · split <;> rfl
    · rfl
  have HV := Lib.hid hV
  clear hV hE
  generalize chkG A B M = K0 at *
  have AW := Lib.hid (fun u => awake3_any u)
  have CF := Lib.hid (fun u => some_any L a cap u hl)
  rw [hsm] at CF
  have HP := Lib.hid hp; clear hp hsm
  go_enter Try.func9, Try.ntmps9
  go_wp2_with fail
  refine (AW.out _).mono ?_
  rintro e w1 ⟨rfl, h⟩
  have B1 : Below w.heap.size w w1 := below_via (by (repeat' (first | (with_reducible exact Below.refl _ _) | (with_reducible assumption) | (with_reducible refine Below.drew ?_) | (with_reducible refine below_drewN ?_ _) | (with_reducible refine Below.setCell ?_ ?_ _) | (with_reducible refine Below.alloc ?_ ?_ _) | go_size | omega))) h
  have G1 := Lib.hid ((Box.new w #[.int .i64 A, .int .i64 B, .int .i64 M] 71 (n := w.heap.size) rfl).keep h)
  have z1 := h.size
  simp at z1
  clear h AW
  go_wp2_with fail
  refine (CF.out _).mono ?_
  rintro e w2 ⟨rfl, h⟩
  have B2 : Below w.heap.size w w2 := below_via B1 h
  have G2 := Lib.hid (G1.out.keep h)
  have z2 := h.size
  clear h G1 CF
  go_upto_region 5 with fail
  have lg2 := G2.out.lt
  go_cut [5, 6] (fun s5 s6 wx => ∃ nb : Nat, s5 = .pointer (some ⟨nb, 0, none⟩) ∧ s6 = .int .i64 E ∧ Box wx nb #[.int .i64 V0, .int .i64 V1, .int .i64 V2, .int .i64 V3] 67 ∧ Below w2.heap.size w2 wx)
  case first =>
    have K := Lib.hid (fun (w' : World) (hw : Below w2.heap.size w2 w') => show (w'.cell? ⟨w.heap.size, 0, none⟩ = some (.int .i64 A) ∧ w'.cell? ⟨w.heap.size, 1, none⟩ = some (.int .i64 B) ∧ w'.cell? ⟨w.heap.size, 2, none⟩ = some (.int .i64 M)) from ⟨(G2.out.keep hw).cell 0, (G2.out.keep hw).cell 1, (G2.out.keep hw).cell 2⟩)
    go_region_held3 (fun w' => (w'.cell? ⟨w.heap.size, 0, none⟩ = some (.int .i64 A) ∧ w'.cell? ⟨w.heap.size, 1, none⟩ = some (.int .i64 B) ∧ w'.cell? ⟨w.heap.size, 2, none⟩ = some (.int .i64 M)))
      ((refine K.out _ ?_; (repeat' (first | (with_reducible exact Below.refl _ _) | (with_reducible assumption) | (with_reducible refine Below.drew ?_) | (with_reducible refine below_drewN ?_ _) | (with_reducible refine Below.setCell ?_ ?_ _) | (with_reducible refine Below.alloc ?_ ?_ _) | go_size | omega)); done))
      (first | (go_at_call 35; refine (CC.out _ (HP.out.keep (below_via B2 (by (repeat' (first | (with_reducible exact Below.refl _ _) | (with_reducible assumption) | (with_reducible refine Below.drew ?_) | (with_reducible refine below_drewN ?_ _) | (with_reducible refine Below.setCell ?_ ?_ _) | (with_reducible refine Below.alloc ?_ ?_ _) | go_size | omega)))))).mono ?_; rintro e w8 ⟨⟨b8, c8, rfl, hq8⟩, h8⟩; have HQ8 := Lib.hid hq8; (first | have NB := Lib.hid ((Box.new w2 #[.int .i64 0, .int .i64 0, .int .i64 0, .int .i64 0] 67 (n := w2.heap.size) rfl).keep h8) | have NB := Lib.hid ((Box.new w2.drew #[.int .i64 0, .int .i64 0, .int .i64 0, .int .i64 0] 67 (n := w2.heap.size) rfl).keep h8) | skip); have hB8 : Below w2.heap.size w2 w8 := below_via (by (repeat' (first | (with_reducible exact Below.refl _ _) | (with_reducible assumption) | (with_reducible refine Below.drew ?_) | (with_reducible refine below_drewN ?_ _) | (with_reducible refine Below.setCell ?_ ?_ _) | (with_reducible refine Below.alloc ?_ ?_ _) | go_size | omega))) h8; clear h8 hq8; have hz8 := hB8.size; obtain ⟨k0, k1, k2⟩ := K.out w8 hB8) | (go_at_call 41; refine (CR.out _ _ _ (liUp HQ8.out (by (repeat' (first | (with_reducible exact Below.refl _ _) | (with_reducible assumption) | (with_reducible refine Below.drew ?_) | (with_reducible refine below_drewN ?_ _) | (with_reducible refine Below.setCell ?_ ?_ _) | (with_reducible refine Below.alloc ?_ ?_ _) | go_size | omega))))).mono ?_; rintro e w9 ⟨rfl, h9⟩; (first | have NB9 := Lib.hid (NB.out.keep h9) | have NB9 := Lib.hid ((Box.new w8 #[.int .i64 0, .int .i64 0, .int .i64 0, .int .i64 0] 67 (n := w8.heap.size) rfl).keep h9) | skip); have hB9 : Below w2.heap.size w2 w9 := below_via (by (repeat' (first | (with_reducible exact Below.refl _ _) | (with_reducible assumption) | (with_reducible refine Below.drew ?_) | (with_reducible refine below_drewN ?_ _) | (with_reducible refine Below.setCell ?_ ?_ _) | (with_reducible refine Below.alloc ?_ ?_ _) | go_size | omega))) h9; clear h9; have hz9 := hB9.size; obtain ⟨k0', k1', k2'⟩ := K.out w9 hB9; (first | (obtain ⟨o0, o1, o2, o3, f0, f1, f2, f3⟩ := NB9.out.four; have lo := NB9.out.lt) | skip)))
    all_goals
      go_wp2_with fail
      go_meet
      refine ⟨_, rfl, rfl, ?_, by (repeat' (first | (with_reducible exact Below.refl _ _) | (with_reducible assumption) | (with_reducible refine Below.drew ?_) | (with_reducible refine below_drewN ?_ _) | (with_reducible refine Below.setCell ?_ ?_ _) | (with_reducible refine Below.alloc ?_ ?_ _) | go_size | omega))⟩
      first
        | (with_reducible exact Box.new _ _ _ rfl)
        | exact (((NB9.out.set 0 _).set 1 _).set 2 _).set 3 _
  obtain ⟨nb, rfl, rfl, hnb, hB9⟩ := hcut
  obtain ⟨w9, rfl⟩ : ∃ x : World, x = wc := ⟨_, rfl⟩
  have B9 : Below w.heap.size w w9 := below_via B2 hB9
  have G9 := Lib.hid (G2.out.keep hB9); have R9 := Lib.hid hnb
  have z9 := hB9.size
  have lg9 := G9.out.lt
  clear hB9 hnb G2 lg2
  go_wp2_with fail
  have K := Lib.hid (fun (w' : World) (hw : Below (w9.heap.size) w9 w') => show (w'.cell? ⟨w.heap.size, 0, none⟩ = some (.int .i64 A) ∧ w'.cell? ⟨w.heap.size, 1, none⟩ = some (.int .i64 B) ∧ w'.cell? ⟨w.heap.size, 2, none⟩ = some (.int .i64 M)) from ⟨(Box.keepB (by omega) (G9.out) hw).cell 0, (Box.keepB (by omega) (G9.out) hw).cell 1, (Box.keepB (by omega) (G9.out) hw).cell 2⟩)
  go_region_held3 (fun w' => (w'.cell? ⟨w.heap.size, 0, none⟩ = some (.int .i64 A) ∧ w'.cell? ⟨w.heap.size, 1, none⟩ = some (.int .i64 B) ∧ w'.cell? ⟨w.heap.size, 2, none⟩ = some (.int .i64 M)))
    ((refine K.out _ ?_; (repeat' (first | (with_reducible exact Below.refl _ _) | (with_reducible assumption) | (with_reducible refine Below.drew ?_) | (with_reducible refine below_drewN ?_ _) | (with_reducible refine Below.setCell ?_ ?_ _) | (with_reducible refine Below.alloc ?_ ?_ _) | go_size | omega)); done))
    (first | (go_at_call 42; refine (CG.out _).mono ?_; rintro e w10 ⟨rfl, h10⟩; have hB10 : Below w9.heap.size w9 w10 := below_via (by (repeat' (first | (with_reducible exact Below.refl _ _) | (with_reducible assumption) | (with_reducible refine Below.drew ?_) | (with_reducible refine below_drewN ?_ _) | (with_reducible refine Below.setCell ?_ ?_ _) | (with_reducible refine Below.alloc ?_ ?_ _) | go_size | omega))) h10; clear h10; have hz10 := hB10.size; have hW10 : Below (w9.heap.size) w9 w10 := hB10.mono (by omega); obtain ⟨k0_0, k0_1, k0_2⟩ := K.out w10 hW10) | (go_at_call 43; refine (CH.out _).mono ?_; rintro e w11 ⟨rfl, h11⟩; have hB11 : Below w9.heap.size w9 w11 := below_via (by (repeat' (first | (with_reducible exact Below.refl _ _) | (with_reducible assumption) | (with_reducible refine Below.drew ?_) | (with_reducible refine below_drewN ?_ _) | (with_reducible refine Below.setCell ?_ ?_ _) | (with_reducible refine Below.alloc ?_ ?_ _) | go_size | omega))) h11; clear h11; have hz11 := hB11.size; have hW11 : Below (w9.heap.size) w9 w11 := hB11.mono (by omega); obtain ⟨k0_0, k0_1, k0_2⟩ := K.out w11 hW11))
  have B11 := below_via B9 hB11
  have G11 := Lib.hid (G9.out.keep hB11); have R11 := Lib.hid (R9.out.keep hB11)
  clear G9 R9 K k0_0 k0_1 k0_2 hB10 hW10 hW11 hB11 lg9
  obtain ⟨g0, g1, g2, -⟩ := G11.out.three
  have lg := G11.out.lt
  go_wp2_with fail
  clear g0 g1 g2
  refine (CK.out _ (HP.out.keep B11)).mono ?_
  rintro e w12 ⟨rfl, h⟩
  have B12 : Below w.heap.size w w12 := below_via B11 h
  have G12 := Lib.hid (G11.out.keep h); have R12 := Lib.hid (R11.out.keep h)
  have z12 := h.size
  clear h G11 R11 lg
  have lr := R12.out.lt
  have lg := G12.out.lt
  by_cases hE : E = 0
  · subst hE
    have EQ := fun v => eqFr2 V0 V1 V2 V3 V0 V1 V2 V3 v
    simp only [beq_self_eq_true, Bool.and_self] at EQ
    clear HV
    go_wp2_with fail
    have K := Lib.hid (fun (w' : World) (hw : Below (w12.heap.size) w12 w') => show (w'.cell? ⟨nb, 0, none⟩ = some (.int .i64 V0) ∧ w'.cell? ⟨nb, 1, none⟩ = some (.int .i64 V1) ∧ w'.cell? ⟨nb, 2, none⟩ = some (.int .i64 V2) ∧ w'.cell? ⟨nb, 3, none⟩ = some (.int .i64 V3)) ∧ (w'.cell? ⟨w.heap.size, 0, none⟩ = some (.int .i64 A) ∧ w'.cell? ⟨w.heap.size, 1, none⟩ = some (.int .i64 B) ∧ w'.cell? ⟨w.heap.size, 2, none⟩ = some (.int .i64 M)) from ⟨⟨(Box.keepB (by omega) (R12.out) hw).cell 0, (Box.keepB (by omega) (R12.out) hw).cell 1, (Box.keepB (by omega) (R12.out) hw).cell 2, (Box.keepB (by omega) (R12.out) hw).cell 3⟩, ⟨(Box.keepB (by omega) (G12.out) hw).cell 0, (Box.keepB (by omega) (G12.out) hw).cell 1, (Box.keepB (by omega) (G12.out) hw).cell 2⟩⟩)
    go_region_held3 (fun w' => (w'.cell? ⟨nb, 0, none⟩ = some (.int .i64 V0) ∧ w'.cell? ⟨nb, 1, none⟩ = some (.int .i64 V1) ∧ w'.cell? ⟨nb, 2, none⟩ = some (.int .i64 V2) ∧ w'.cell? ⟨nb, 3, none⟩ = some (.int .i64 V3)) ∧ (w'.cell? ⟨w.heap.size, 0, none⟩ = some (.int .i64 A) ∧ w'.cell? ⟨w.heap.size, 1, none⟩ = some (.int .i64 B) ∧ w'.cell? ⟨w.heap.size, 2, none⟩ = some (.int .i64 M)))
      ((refine K.out _ ?_; (repeat' (first | (with_reducible exact Below.refl _ _) | (with_reducible assumption) | (with_reducible refine Below.drew ?_) | (with_reducible refine below_drewN ?_ _) | (with_reducible refine Below.setCell ?_ ?_ _) | (with_reducible refine Below.alloc ?_ ?_ _) | go_size | omega)); done))
      (first | (go_at_call 45; refine (RR.out _ trivial (HP.out.keep (below_via B12 (by (repeat' (first | (with_reducible exact Below.refl _ _) | (with_reducible assumption) | (with_reducible refine Below.drew ?_) | (with_reducible refine below_drewN ?_ _) | (with_reducible refine Below.setCell ?_ ?_ _) | (with_reducible refine Below.alloc ?_ ?_ _) | go_size | omega)))))).mono ?_; rintro e w13 ⟨rfl, h13⟩; have hB13 : Below w12.heap.size w12 w13 := below_via (by (repeat' (first | (with_reducible exact Below.refl _ _) | (with_reducible assumption) | (with_reducible refine Below.drew ?_) | (with_reducible refine below_drewN ?_ _) | (with_reducible refine Below.setCell ?_ ?_ _) | (with_reducible refine Below.alloc ?_ ?_ _) | go_size | omega))) h13; clear h13; have hz13 := hB13.size; have hW13 : Below (w12.heap.size) w12 w13 := hB13.mono (by omega); obtain ⟨⟨k0_0, k0_1, k0_2, k0_3⟩, ⟨k1_0, k1_1, k1_2⟩⟩ := K.out w13 hW13))
    all_goals
      have B13 := below_via B12 hB13
      go_wp2_with fail
      go_ret
      exact ⟨by simp, B13⟩
  · obtain ⟨rfl, rfl, rfl, rfl⟩ := HV.out hE
    have hb : (E == 0) = false := by simpa using hE
    have EQ := fun v => eqFr2 0 0 0 0 0 0 0 0 v
    simp only [beq_self_eq_true, Bool.and_self] at EQ
    clear HV
    obtain ⟨r0, r1, r2, r3, -⟩ := R12.out.four
    go_wp2_with fail
    go_ret
    exact ⟨by simp, B12⟩
theorem lawGirdersA (A B M : Int) (L : List (Int × Int)) (a : Option Addr) (cap : Nat) (w : World) (_ : -9223372036854775808 ≤ A ∧ A ≤ 9223372036854775807) (_ : -9223372036854775808 ≤ B ∧ B ≤ 9223372036854775807) (_ : -9223372036854775808 ≤ M ∧ M ≤ 9223372036854775807) (hp : LdAt w a L) (hl : L.length ≤ 9223372036854775807) :
    Calls Try.prog 9 #[gir A B M, .slice a L.length cap] w fun e w' => e = .returned (.bool true) ∧ Below w.heap.size w w' := by
  cases hsm : smL L
  · exact girder_A A B M L a cap w hl hp hsm
  · have hl4 : L.length ≤ 400 := by unfold smL at hsm; simp at hsm; omega
    by_cases hE : girE A B M L = 0
    · have hG : chkG A B M = 0 := by
        unfold girE at hE; split at hE
        · contradiction
        · rename_i h; simpa using h
      have hL : chkL A B L = 0 := by unfold girE at hE; rwa [if_neg (by simpa using hG)] at hE
      obtain ⟨g0, g1, g2, -⟩ := chkG_ok hG
      exact girder_D A B M 0 _ _ _ _ L a cap w hl hp hsm hE (fun h => absurd rfl h) (Lib.hid fun b' c' u h => reaOk_any A B M _ _ L (some ⟨b', 0, none⟩) c' u hl hG hL h rfl rfl) (Lib.hid fun u _ h => rrea_any A B M _ _ L a cap u ⟨g0, g1, g2⟩ (okY_of hL) h rfl rfl)
    · exact girder_D A B M _ 0 0 0 0 L a cap w hl hp hsm rfl (fun _ => ⟨rfl, rfl, rfl, rfl⟩) (Lib.hid fun b' c' u h => reaB_any A B M _ L (some ⟨b', 0, none⟩) c' u hl4 rfl hE h) (Lib.hid fun u h _ => absurd h hE)
end Go.Proofs.Ytnfpmaenikhoaaa
