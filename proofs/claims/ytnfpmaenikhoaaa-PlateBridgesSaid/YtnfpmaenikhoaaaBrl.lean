/-
  Bridges: the sum of the loads.
-/
import Derived.Test.YtnfpmaenikhoaaaBlo
import Derived.Deep.DeepCutAuto
import Derived.Test.YtnfpmaenikhoaaaGld
namespace Go.Proofs.Ytnfpmaenikhoaaa
open Go.RowKit
def BrsAt (w : World) (b o : Nat) (l : List Br) : Prop := ∀ j (h : j < l.length), w.cell? ⟨b, o + j * 5, none⟩ = some (.int .i64 (l[j]).f) ∧ w.cell? ⟨b, o + j * 5 + 1, none⟩ = some (.int .i64 (l[j]).b) ∧ w.cell? ⟨b, o + j * 5 + 2, none⟩ = some (.int .i64 (l[j]).k) ∧ w.cell? ⟨b, o + j * 5 + 3, none⟩ = some (.int .i64 (l[j]).a) ∧ w.cell? ⟨b, o + j * 5 + 4, none⟩ = some (.int .i64 (l[j]).h)
def BrAt (w : World) (a : Option Addr) (l : List Br) : Prop :=
  l = [] ∨ ∃ b o, a = some ⟨b, o, none⟩ ∧ b < w.heap.size ∧ BrsAt w b o l
theorem BrAt.keep {w w' : World} {a : Option Addr} {l : List Br} (h : BrAt w a l) (hb : Below w.heap.size w w') : BrAt w' a l := by
  rcases h with h | ⟨b, o, rfl, h1, h2⟩
  · exact .inl h
  · refine .inr ⟨b, o, rfl, Nat.lt_of_lt_of_le h1 hb.size, fun j hj => ?_⟩
    rw [(bcell hb).1 b _ h1, (bcell hb).1 b _ h1, (bcell hb).1 b _ h1, (bcell hb).1 b _ h1, (bcell hb).1 b _ h1]; exact h2 j hj
theorem loadOf_bad (f b k a h lo hi : Int) (w : World) (ho : ((⟨f, b, k, a, h⟩ : Br).ok && okT (lo, hi)) = false) :
    Calls Try.prog 89 #[brg f b k a h, rng lo hi] w fun e w' => e = .returned (.tuple #[rng 0 0, .int .i64 2]) ∧ Below w.heap.size w w' := by
  cases h1 : okB f b k a h
  · exact loadOf_bad1 f b k a h lo hi w h1
  · refine loadOf_bad2 f b k a h lo hi w h1 ?_
    have : (⟨f, b, k, a, h⟩ : Br).ok = true := h1
    rw [this] at ho
    simpa using ho
def BlRel (l : List Br) (P : List (Int × Int)) (w : World) (v : Value) (wr : World) : Prop :=
  ∃ k : Nat, k ≤ l.length ∧ v = .int .i64 (k : Int) ∧ brE l P k = 0 ∧ Box wr w.heap.size #[.int .i64 0, .int .i64 0] 90 ∧ Box wr (w.heap.size + 1) #[.int .i64 (sB bLo l P k), .int .i64 (sB bHi l P k)] 90 ∧ Below w.heap.size w wr
set_option maxRecDepth 100000 in
set_option maxHeartbeats 1600000 in
theorem bload_big (l : List Br) (P : List (Int × Int)) (a a2 : Option Addr) (cap cap2 : Nat) (w : World) (hl : l.length ≤ 9223372036854775807) (h1 : (300 : Int) < l.length) :
    Calls Try.prog 55 #[.slice a l.length cap, .slice a2 P.length cap2] w fun e w' => e = .returned (.tuple #[rng 0 0, .int .i64 8]) ∧ Below w.heap.size w w' := by
  go_enter Try.func55, Try.ntmps55
  have R1 := Lib.hid (Box.new w #[.int .i64 0, .int .i64 0] 90 (n := w.heap.size) rfl)
  have B1 : Below w.heap.size w (w.alloc (.cells #[.int .i64 0, .int .i64 0] 90)) := by (repeat' (first | (with_reducible exact Below.refl _ _) | (with_reducible assumption) | (with_reducible refine Below.drew ?_) | (with_reducible refine below_drewN ?_ _) | (with_reducible refine Below.setCell ?_ ?_ _) | (with_reducible refine Below.alloc ?_ ?_ _) | go_size | omega))
  obtain ⟨n0, n1, f0, f1⟩ := R1.out.two
  have l0 := R1.out.lt
  go_wp2_with fail
  clear n0 n1 f0 f1
  have RV : Box (w.alloc (.cells #[.int .i64 0, .int .i64 0] 90)) (w.heap.size) #[.int .i64 0, .int .i64 0] 90 := R1.out
  have BV : Below w.heap.size w (w.alloc (.cells #[.int .i64 0, .int .i64 0] 90)) := by (repeat' (first | (with_reducible exact Below.refl _ _) | (with_reducible assumption) | (with_reducible refine Below.drew ?_) | (with_reducible refine below_drewN ?_ _) | (with_reducible refine Below.setCell ?_ ?_ _) | (with_reducible refine Below.alloc ?_ ?_ _) | go_size | omega))
  generalize (w.alloc (.cells #[.int .i64 0, .int .i64 0] 90)) = v at *
  have s0 := RV.cell 0
  have s1 := RV.cell 1
  simp at s0 s1
  go_wp2_with fail
  refine bodyPost_ret (v := .tuple #[rng 0 0, .int .i64 8]) (by simp [results, Try.results55, go_sem, s0, s1]) rfl ⟨rfl, BV⟩
set_option maxRecDepth 100000 in
set_option maxHeartbeats 1600000 in
theorem bload_shape (l : List Br) (P : List (Int × Int)) (a a2 : Option Addr) (cap cap2 : Nat) (w : World) (hl : P.length ≤ 9223372036854775807) (h1 : (l.length : Int) ≤ 300) (h2 : l.length ≠ P.length) :
    Calls Try.prog 55 #[.slice a l.length cap, .slice a2 P.length cap2] w fun e w' => e = .returned (.tuple #[rng 0 0, .int .i64 10]) ∧ Below w.heap.size w w' := by
  have hne : ((P.length : Int) == (l.length : Int)) = false := by simp; omega
  go_enter Try.func55, Try.ntmps55
  have R1 := Lib.hid (Box.new w #[.int .i64 0, .int .i64 0] 90 (n := w.heap.size) rfl)
  have B1 : Below w.heap.size w (w.alloc (.cells #[.int .i64 0, .int .i64 0] 90)) := by (repeat' (first | (with_reducible exact Below.refl _ _) | (with_reducible assumption) | (with_reducible refine Below.drew ?_) | (with_reducible refine below_drewN ?_ _) | (with_reducible refine Below.setCell ?_ ?_ _) | (with_reducible refine Below.alloc ?_ ?_ _) | go_size | omega))
  obtain ⟨n0, n1, f0, f1⟩ := R1.out.two
  have l0 := R1.out.lt
  go_wp2_with fail
  clear n0 n1 f0 f1
  have RV : Box (w.alloc (.cells #[.int .i64 0, .int .i64 0] 90)) (w.heap.size) #[.int .i64 0, .int .i64 0] 90 := R1.out
  have BV : Below w.heap.size w (w.alloc (.cells #[.int .i64 0, .int .i64 0] 90)) := by (repeat' (first | (with_reducible exact Below.refl _ _) | (with_reducible assumption) | (with_reducible refine Below.drew ?_) | (with_reducible refine below_drewN ?_ _) | (with_reducible refine Below.setCell ?_ ?_ _) | (with_reducible refine Below.alloc ?_ ?_ _) | go_size | omega))
  generalize (w.alloc (.cells #[.int .i64 0, .int .i64 0] 90)) = v at *
  have s0 := RV.cell 0
  have s1 := RV.cell 1
  simp at s0 s1
  go_wp2_with fail
  refine bodyPost_ret (v := .tuple #[rng 0 0, .int .i64 10]) (by simp [results, Try.results55, go_sem, s0, s1]) rfl ⟨rfl, BV⟩
set_option maxRecDepth 100000 in
set_option maxHeartbeats 1600000 in
theorem bload_any (l : List Br) (P : List (Int × Int)) (a a2 : Option Addr) (cap cap2 : Nat) (w : World) (V0 V1 E : Int) (h20 : l.length ≤ 20) (h2 : P.length = l.length) (hp : BrAt w a l) (hq : LdAt w a2 P) (hE : brE l P l.length = E) (hV0 : V0 = if E = 0 then sB bLo l P l.length else 0) (hV1 : V1 = if E = 0 then sB bHi l P l.length else 0) :
    Calls Try.prog 55 #[.slice a l.length cap, .slice a2 l.length cap2] w fun e w' => e = .returned (.tuple #[rng V0 V1, .int .i64 E]) ∧ Below w.heap.size w w' := by
  have HP := Lib.hid hp; have HQ := Lib.hid hq; have HE := Lib.hid hE; have HV0 := Lib.hid hV0; have HV1 := Lib.hid hV1; have H2 := Lib.hid h2
  clear hp hq hE hV0 hV1 h2
  go_enter Try.func55, Try.ntmps55
  go_wp2_with fail
  go_loopw [24] (BlRel l P w) (fun i _ => l.length - (intOf i).toNat)
  case atStart => exact ⟨0, by omega, rfl, rfl, (Box.new _ _ _ rfl).alloc _, Box.new _ _ _ (by simp), by (repeat' (first | (with_reducible exact Below.refl _ _) | (with_reducible assumption) | (with_reducible refine Below.drew ?_) | (with_reducible refine below_drewN ?_ _) | (with_reducible refine Below.setCell ?_ ?_ _) | (with_reducible refine Below.alloc ?_ ?_ _) | go_size | omega))⟩
  case round =>
    obtain ⟨k, hk, rfl, he, hb0, hb1, hB⟩ := hrel
    have R0 := Lib.hid hb0; have R1 := Lib.hid hb1; have HEk := Lib.hid he; clear hb0 hb1 he
    have zr := hB.size
    have l0 := R0.out.lt; have l1 := R1.out.lt
    by_cases hkl : k < l.length
    · rcases HP.out.keep hB with h0 | ⟨b0, o0, rfl, hbl, hc⟩
      · rw [h0] at hkl; simp at hkl
      have hkp : k < P.length := by have := H2.out; omega
      rcases HQ.out.keep hB with h0 | ⟨b1, o1, rfl, hbl1, hd⟩
      · rw [h0] at hkp; simp at hkp
      obtain ⟨c0, c1, c2, c3, c4⟩ := hc k hkl
      obtain ⟨d0, d1⟩ := hd k hkp
      clear hc hd
      have GO := Lib.hid (fun (x : Br) (t : Int × Int) (hx : l[k] = x) (ht : P[k] = t) => And.intro (sB_go (g := bLo) hkl hkp hx ht) (sB_go (g := bHi) hkl hkp hx ht))
      have GE := Lib.hid (brE_go hkl hkp HEk.out)
      have s0 := sB_bd (g := bLo) (l := l) (T := P) (M := 120000000000000000) (k := k) (by omega) (by omega) HEk.out (fun x t h h' => (b_bd h h').1) (by omega)
      have s1 := sB_bd (g := bHi) (l := l) (T := P) (M := 120000000000000000) (k := k) (by omega) (by omega) HEk.out (fun x t h h' => (b_bd h h').2) (by omega)
      rcases hlk : l[k] with ⟨f, b, kk, aa, h⟩
      rcases hpk : P[k] with ⟨lo, hi⟩
      rw [hlk] at c0 c1 c2 c3 c4 GE
      rw [hpk] at d0 d1 GE
      have GO' := Lib.hid (GO.out _ _ hlk hpk)
      clear hlk hpk GO
      dsimp only at c0 c1 c2 c3 c4 d0 d1
      generalize hS0 : sB bLo l P k = S0 at *
      generalize hS1 : sB bHi l P k = S1 at *
      clear hS0 hS1
      obtain ⟨s00, s01⟩ := s0
      obtain ⟨s10, s11⟩ := s1
      have LB : b0 < wr.heap.size + 1 := by omega
      have LC : b1 < wr.heap.size + 1 := by omega
      go_wp2_with fail
      have A2 := Lib.hid (Box.new wr #[.int .i64 f, .int .i64 b, .int .i64 kk, .int .i64 aa, .int .i64 h] 97 (n := wr.heap.size) rfl)
      have R02 := Lib.hid (R0.out.alloc (.cells #[.int .i64 f, .int .i64 b, .int .i64 kk, .int .i64 aa, .int .i64 h] 97))
      have R12 := Lib.hid (R1.out.alloc (.cells #[.int .i64 f, .int .i64 b, .int .i64 kk, .int .i64 aa, .int .i64 h] 97))
      have B2 : Below w.heap.size w (wr.alloc (.cells #[.int .i64 f, .int .i64 b, .int .i64 kk, .int .i64 aa, .int .i64 h] 97)) := by (repeat' (first | (with_reducible exact Below.refl _ _) | (with_reducible assumption) | (with_reducible refine Below.drew ?_) | (with_reducible refine below_drewN ?_ _) | (with_reducible refine Below.setCell ?_ ?_ _) | (with_reducible refine Below.alloc ?_ ?_ _) | go_size | omega))
      have e0 : (wr.alloc (.cells #[.int .i64 f, .int .i64 b, .int .i64 kk, .int .i64 aa, .int .i64 h] 97)).cell? ⟨b1, o1 + k * 2, none⟩ = some (.int .i64 lo) := (World.cell?_alloc_past _ _ _ hbl1).trans d0
      have e1 : (wr.alloc (.cells #[.int .i64 f, .int .i64 b, .int .i64 kk, .int .i64 aa, .int .i64 h] 97)).cell? ⟨b1, o1 + k * 2 + 1, none⟩ = some (.int .i64 hi) := (World.cell?_alloc_past _ _ _ hbl1).trans d1
      have z2 : wr.heap.size + 1 ≤ (wr.alloc (.cells #[.int .i64 f, .int .i64 b, .int .i64 kk, .int .i64 aa, .int .i64 h] 97)).heap.size := by simp
      clear R0 R1 c0 c1 c2 c3 c4 d0 d1
      generalize (wr.alloc (.cells #[.int .i64 f, .int .i64 b, .int .i64 kk, .int .i64 aa, .int .i64 h] 97)) = u at *
      generalize wr.heap.size = ab at *
      have la := A2.out.lt
      have hb1u : b1 < u.heap.size := by omega
      have K := Lib.hid (fun (w' : World) (hw : Below u.heap.size u w') => show ((w'.cell? ⟨ab, 0, none⟩ = some (.int .i64 f) ∧ w'.cell? ⟨ab, 1, none⟩ = some (.int .i64 b) ∧ w'.cell? ⟨ab, 2, none⟩ = some (.int .i64 kk) ∧ w'.cell? ⟨ab, 3, none⟩ = some (.int .i64 aa) ∧ w'.cell? ⟨ab, 4, none⟩ = some (.int .i64 h)) ∧ w'.cell? ⟨b1, o1 + k * 2, none⟩ = some (.int .i64 lo) ∧ w'.cell? ⟨b1, o1 + k * 2 + 1, none⟩ = some (.int .i64 hi)) from ⟨⟨(A2.out.keep hw).cell 0, (A2.out.keep hw).cell 1, (A2.out.keep hw).cell 2, (A2.out.keep hw).cell 3, (A2.out.keep hw).cell 4⟩, (hw.cell (p := ⟨b1, o1 + k * 2, none⟩) hb1u).trans e0, (hw.cell (p := ⟨b1, o1 + k * 2 + 1, none⟩) hb1u).trans e1⟩)
      clear e0 e1
      cases hok : ((⟨f, b, kk, aa, h⟩ : Br).ok && okT (lo, hi))
      · have CL := Lib.hid (fun v => loadOf_bad f b kk aa h lo hi v hok)
        rw [hok] at GE
        go_upto_region 9 with fail
        go_cut [9, 10] (fun s9 s10 wx => ∃ nb : Nat, s9 = .pointer (some ⟨nb, 0, none⟩) ∧ s10 = .int .i64 2 ∧ Box wx nb #[.int .i64 0, .int .i64 0] 90 ∧ nb ≠ w.heap.size + 1 ∧ Below u.heap.size u wx)
        case first =>
          go_region_held3 (fun w' => ((w'.cell? ⟨ab, 0, none⟩ = some (.int .i64 f) ∧ w'.cell? ⟨ab, 1, none⟩ = some (.int .i64 b) ∧ w'.cell? ⟨ab, 2, none⟩ = some (.int .i64 kk) ∧ w'.cell? ⟨ab, 3, none⟩ = some (.int .i64 aa) ∧ w'.cell? ⟨ab, 4, none⟩ = some (.int .i64 h)) ∧ w'.cell? ⟨b1, o1 + k * 2, none⟩ = some (.int .i64 lo) ∧ w'.cell? ⟨b1, o1 + k * 2 + 1, none⟩ = some (.int .i64 hi)))
            ((refine K.out _ ?_; (repeat' (first | (with_reducible exact Below.refl _ _) | (with_reducible assumption) | (with_reducible refine Below.drew ?_) | (with_reducible refine below_drewN ?_ _) | (with_reducible refine Below.setCell ?_ ?_ _) | (with_reducible refine Below.alloc ?_ ?_ _) | go_size | omega)); done))
            (first | (go_at_call 89; refine (CL.out _).mono ?_; rintro e w8 ⟨rfl, h8⟩; (first | have NB := Lib.hid ((Box.new u #[.int .i64 0, .int .i64 0] 90 (n := u.heap.size) rfl).keep h8) | have NB := Lib.hid ((Box.new u.drew #[.int .i64 0, .int .i64 0] 90 (n := u.heap.size) rfl).keep h8) | have NB := Lib.hid (((Box.new u #[.int .i64 0, .int .i64 0] 90 (n := u.heap.size) rfl).drew).keep h8) | skip); have hB8 : Below u.heap.size u w8 := below_via (by (repeat' (first | (with_reducible exact Below.refl _ _) | (with_reducible assumption) | (with_reducible refine Below.drew ?_) | (with_reducible refine below_drewN ?_ _) | (with_reducible refine Below.setCell ?_ ?_ _) | (with_reducible refine Below.alloc ?_ ?_ _) | go_size | omega))) h8; clear h8; have hz8 := hB8.size; obtain ⟨⟨k0, k1, k2, k3, k4⟩, k5, k6⟩ := K.out w8 hB8; (first | (obtain ⟨o0, o1, f0, f1⟩ := NB.out.two; have lo9 := NB.out.lt) | skip)))
          all_goals
            go_wp2_with fail
            go_meet
            refine ⟨_, rfl, rfl, ?_, by omega, by (repeat' (first | (with_reducible exact Below.refl _ _) | (with_reducible assumption) | (with_reducible refine Below.drew ?_) | (with_reducible refine below_drewN ?_ _) | (with_reducible refine Below.setCell ?_ ?_ _) | (with_reducible refine Below.alloc ?_ ?_ _) | go_size | omega))⟩
            first
              | (with_reducible exact Box.new _ _ _ rfl)
              | exact (NB.out.set 0 _).set 1 _
        obtain ⟨nb, rfl, rfl, hnb, hcN, hcB⟩ := hcut
        obtain ⟨v9, rfl⟩ : ∃ x : World, x = wc := ⟨_, rfl⟩
        have N9 := Lib.hid hnb
        have BB9 : Below w.heap.size w v9 := below_via B2 hcB
        have R09 := Lib.hid (R02.out.keep hcB); have R19 := Lib.hid (R12.out.keep hcB)
        clear hnb R02 R12 A2 K
        have he : E = 2 := by
          have h1 := GE.out
          rw [if_neg (by decide)] at h1
          have h2 := brE_up (l := l) (T := P) (k := k + 1) (by omega) (l.length - (k + 1))
          rw [show k + 1 + (l.length - (k + 1)) = l.length by omega, HE.out, h1] at h2
          exact h2
        subst he
        have hv0 := HV0.out; have hv1 := HV1.out
        rw [if_neg (by decide)] at hv0 hv1
        subst hv0; subst hv1
        obtain ⟨n0, n1, f0, f1⟩ := R09.out.two
        have l09 := R09.out.lt
        clear HV0 HV1 HE GE GO'
        go_wp2_with fail
        clear n0 n1 f0 f1
        have RV : Box ((v9.setCell ⟨w.heap.size, 0, none⟩ (.int .i64 0)).setCell ⟨w.heap.size, 1, none⟩ (.int .i64 0)) (w.heap.size) #[.int .i64 0, .int .i64 0] 90 := ((R09.out.set 0 _).set 1 _)
        have BV : Below w.heap.size w ((v9.setCell ⟨w.heap.size, 0, none⟩ (.int .i64 0)).setCell ⟨w.heap.size, 1, none⟩ (.int .i64 0)) := by (repeat' (first | (with_reducible exact Below.refl _ _) | (with_reducible assumption) | (with_reducible refine Below.drew ?_) | (with_reducible refine below_drewN ?_ _) | (with_reducible refine Below.setCell ?_ ?_ _) | (with_reducible refine Below.alloc ?_ ?_ _) | go_size | omega))
        generalize ((v9.setCell ⟨w.heap.size, 0, none⟩ (.int .i64 0)).setCell ⟨w.heap.size, 1, none⟩ (.int .i64 0)) = v at *
        have s0 := RV.cell 0
        have s1 := RV.cell 1
        simp at s0 s1
        go_wp2_with fail
        refine bodyPost_ret (v := .tuple #[rng 0 0, .int .i64 2]) (by simp [results, Try.results55, go_sem, s0, s1]) rfl ⟨rfl, BV⟩
      · have CL := Lib.hid (fun v => loadOf_ok f b kk aa h lo hi v (by simp at hok; exact hok.1) (by simp at hok; exact hok.2))
        rw [hok] at GE
        have rb := b_bd (x := ⟨f, b, kk, aa, h⟩) (t := (lo, hi)) (by simp at hok; exact hok.1) (by simp at hok; exact hok.2)
        generalize bLo ⟨f, b, kk, aa, h⟩ (lo, hi) = rl at *
        generalize bHi ⟨f, b, kk, aa, h⟩ (lo, hi) = rh at *
        obtain ⟨⟨rb0, rb1⟩, rb2, rb3⟩ := rb
        go_upto_region 9 with fail
        go_cut [9, 10] (fun s9 s10 wx => ∃ nb : Nat, s9 = .pointer (some ⟨nb, 0, none⟩) ∧ s10 = .int .i64 0 ∧ Box wx nb #[.int .i64 rl, .int .i64 rh] 90 ∧ nb ≠ w.heap.size + 1 ∧ Below u.heap.size u wx)
        case first =>
          go_region_held3 (fun w' => ((w'.cell? ⟨ab, 0, none⟩ = some (.int .i64 f) ∧ w'.cell? ⟨ab, 1, none⟩ = some (.int .i64 b) ∧ w'.cell? ⟨ab, 2, none⟩ = some (.int .i64 kk) ∧ w'.cell? ⟨ab, 3, none⟩ = some (.int .i64 aa) ∧ w'.cell? ⟨ab, 4, none⟩ = some (.int .i64 h)) ∧ w'.cell? ⟨b1, o1 + k * 2, none⟩ = some (.int .i64 lo) ∧ w'.cell? ⟨b1, o1 + k * 2 + 1, none⟩ = some (.int .i64 hi)))
            ((refine K.out _ ?_; (repeat' (first | (with_reducible exact Below.refl _ _) | (with_reducible assumption) | (with_reducible refine Below.drew ?_) | (with_reducible refine below_drewN ?_ _) | (with_reducible refine Below.setCell ?_ ?_ _) | (with_reducible refine Below.alloc ?_ ?_ _) | go_size | omega)); done))
            (first | (go_at_call 89; refine (CL.out _).mono ?_; rintro e w8 ⟨rfl, h8⟩; (first | have NB := Lib.hid ((Box.new u #[.int .i64 0, .int .i64 0] 90 (n := u.heap.size) rfl).keep h8) | have NB := Lib.hid ((Box.new u.drew #[.int .i64 0, .int .i64 0] 90 (n := u.heap.size) rfl).keep h8) | have NB := Lib.hid (((Box.new u #[.int .i64 0, .int .i64 0] 90 (n := u.heap.size) rfl).drew).keep h8) | skip); have hB8 : Below u.heap.size u w8 := below_via (by (repeat' (first | (with_reducible exact Below.refl _ _) | (with_reducible assumption) | (with_reducible refine Below.drew ?_) | (with_reducible refine below_drewN ?_ _) | (with_reducible refine Below.setCell ?_ ?_ _) | (with_reducible refine Below.alloc ?_ ?_ _) | go_size | omega))) h8; clear h8; have hz8 := hB8.size; obtain ⟨⟨k0, k1, k2, k3, k4⟩, k5, k6⟩ := K.out w8 hB8; (first | (obtain ⟨o0, o1, f0, f1⟩ := NB.out.two; have lo9 := NB.out.lt) | skip)))
          all_goals
            go_wp2_with fail
            go_meet
            refine ⟨_, rfl, rfl, ?_, by omega, by (repeat' (first | (with_reducible exact Below.refl _ _) | (with_reducible assumption) | (with_reducible refine Below.drew ?_) | (with_reducible refine below_drewN ?_ _) | (with_reducible refine Below.setCell ?_ ?_ _) | (with_reducible refine Below.alloc ?_ ?_ _) | go_size | omega))⟩
            first
              | (with_reducible exact Box.new _ _ _ rfl)
              | exact (NB.out.set 0 _).set 1 _
        obtain ⟨nb, rfl, rfl, hnb, hcN, hcB⟩ := hcut
        obtain ⟨v9, rfl⟩ : ∃ x : World, x = wc := ⟨_, rfl⟩
        have N9 := Lib.hid hnb
        have BB9 : Below w.heap.size w v9 := below_via B2 hcB
        have R09 := Lib.hid (R02.out.keep hcB); have R19 := Lib.hid (R12.out.keep hcB)
        clear hnb R02 R12 A2 K
        obtain ⟨n0, n1, f0, f1⟩ := R19.out.two
        obtain ⟨q0, q1, -⟩ := N9.out.two
        have l19 := R19.out.lt; have ln9 := N9.out.lt
        have hne : nb ≠ w.heap.size + 1 := hcN
        go_wp2_with fail
        have Q1 : Box ((v9.setCell ⟨w.heap.size + 1, 0, none⟩ (.int .i64 (S0 + rl))).setCell ⟨w.heap.size + 1, 1, none⟩ (.int .i64 (S1 + rh))) (w.heap.size + 1) #[.int .i64 (S0 + rl), .int .i64 (S1 + rh)] 90 := (R19.out.set 0 _).set 1 _
        have Q0 := R09.out.other ⟨w.heap.size + 1, 0, none⟩ (.int .i64 (S0 + rl)) (by simp) |>.other ⟨w.heap.size + 1, 1, none⟩ (.int .i64 (S1 + rh)) (by simp)
        have BQ : Below w.heap.size w ((v9.setCell ⟨w.heap.size + 1, 0, none⟩ (.int .i64 (S0 + rl))).setCell ⟨w.heap.size + 1, 1, none⟩ (.int .i64 (S1 + rh))) := by (repeat' (first | (with_reducible exact Below.refl _ _) | (with_reducible assumption) | (with_reducible refine Below.drew ?_) | (with_reducible refine below_drewN ?_ _) | (with_reducible refine Below.setCell ?_ ?_ _) | (with_reducible refine Below.alloc ?_ ?_ _) | go_size | omega))
        go_roundw
        case rel => exact ⟨k + 1, by omega, by simp, by rw [GE.out]; rfl, Q0, by rw [GO'.out.1, GO'.out.2]; exact Q1, BQ⟩
        case measure => simp [intOf]; omega
    · obtain rfl : k = l.length := by omega
      have he := HE.out
      rw [HEk.out] at he
      subst he
      have hv0 := HV0.out; have hv1 := HV1.out
      rw [if_pos rfl] at hv0 hv1
      rw [← hv0, ← hv1] at R1
      clear HV0 HV1 hv0 hv1 HE HEk
      obtain ⟨m0, m1, -⟩ := R1.out.two
      obtain ⟨n0, n1, f0, f1⟩ := R0.out.two
      go_wp2_with fail
      clear m0 m1 n0 n1 f0 f1
      have RV : Box ((wr.setCell ⟨w.heap.size, 0, none⟩ (.int .i64 V0)).setCell ⟨w.heap.size, 1, none⟩ (.int .i64 V1)) (w.heap.size) #[.int .i64 V0, .int .i64 V1] 90 := ((R0.out.set 0 _).set 1 _)
      have BV : Below w.heap.size w ((wr.setCell ⟨w.heap.size, 0, none⟩ (.int .i64 V0)).setCell ⟨w.heap.size, 1, none⟩ (.int .i64 V1)) := by (repeat' (first | (with_reducible exact Below.refl _ _) | (with_reducible assumption) | (with_reducible refine Below.drew ?_) | (with_reducible refine below_drewN ?_ _) | (with_reducible refine Below.setCell ?_ ?_ _) | (with_reducible refine Below.alloc ?_ ?_ _) | go_size | omega))
      generalize ((wr.setCell ⟨w.heap.size, 0, none⟩ (.int .i64 V0)).setCell ⟨w.heap.size, 1, none⟩ (.int .i64 V1)) = v at *
      have s0 := RV.cell 0
      have s1 := RV.cell 1
      simp at s0 s1
      go_wp2_with fail
      refine bodyPost_ret (v := .tuple #[rng V0 V1, .int .i64 0]) (by simp [results, Try.results55, go_sem, s0, s1]) rfl ⟨rfl, BV⟩
end Go.Proofs.Ytnfpmaenikhoaaa
