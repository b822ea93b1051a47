/-
  The chapter's example of bars: Distribute.
-/
import Derived.Test.YtahfliboanphkaaDi2
import Derived.Test.YtahfliboanphkaaDi3
import Derived.Deep.DeepCutAuto
import Derived.Deep.RegionWith
namespace Go.Proofs.Ytahfliboanphkaa
open Go.RowKit
theorem reactions_any (g0 g1 g2 : Int) (a : Option Addr) (len cap : Nat) (L : List (Int × Int)) (hreach : L.length * 16 ≤ 140737488351232) (w : World) (hL : LoadsIn w.heap.size w (.slice a len cap) L) :
    Calls Try.prog 56 #[lad g0 g1 g2 (.slice a len cap)] w fun e W' => e = .returned (.tuple #[.int .i64 (sumA g1 (come g1 L)), .int .i64 (sumB g0 (come g1 L))]) ∧ Below w.heap.size w W' :=
  callsIn_wide.1 (reactions_in Fence.wide 3 trivial trivial trivial rfl (by omega) g0 g1 g2 a len cap L hreach w hL)
theorem loads_of_row {w : World} {base g cap : Nat} {L : List (Int × Int)} {B : Nat} (h : w.ownsRow base 64 2 (.slice (some ⟨g, 0, none⟩) L.length cap) L.length (L.flatMap fun y => [.int .i64 y.1, .int .i64 y.2])) (hB : g < B) : LoadsIn B w (.slice (some ⟨g, 0, none⟩) L.length cap) L := by
  refine .inr ⟨g, 0, cap, rfl, hB, fun j hj => ?_⟩
  have key : ∀ (L : List (Int × Int)) (j : Nat) (hj : j < L.length), (L.flatMap fun y => [Value.int .i64 y.1, Value.int .i64 y.2])[j * 2]? = some (.int .i64 (L[j]).1) ∧ (L.flatMap fun y => [Value.int .i64 y.1, Value.int .i64 y.2])[j * 2 + 1]? = some (.int .i64 (L[j]).2) := by
    intro L
    induction L with
    | nil => intro j hj; simp at hj
    | cons y t ih =>
      intro j hj
      cases j with
      | zero => simp
      | succ j =>
        have := ih j (by simpa using hj)
        rw [List.flatMap_cons]
        rw [show (j + 1) * 2 = j * 2 + 1 + 1 by omega]
        simpa using this
  have c0 := h.cells rfl _ _ (key L j hj).1
  have c1 := h.cells rfl _ _ (key L j hj).2
  have hadd : ∀ i, (⟨g, 0, none⟩ : Addr).add i = ⟨g, 0 + i, none⟩ := fun i => by unfold Addr.add; by_cases h : i = 0 <;> simp [h]
  rw [hadd] at c0 c1
  exact ⟨c0, c1⟩
def DisPost (w : World) (e : Ending) (w' : World) : Prop :=
  ∃ x : Nat, e = .returned (.tuple #[.slice (some ⟨x, 0, none⟩) 3 3, .int .i64 0]) ∧ Box w' x #[.int .i64 30, .int .i64 1, .int .i64 75, .int .i64 1, .int .i64 55, .int .i64 1] 63 ∧ Below w.heap.size w w'
set_option maxRecDepth 100000 in
set_option maxHeartbeats 3200000 in
theorem distribute_ex (b c : Nat) (w : World) (hb : Box w b #[.int .i64 0, .int .i64 100, .int .i64 300] 3) (hc : Box w c #[.int .i64 50, .int .i64 60, .int .i64 200, .int .i64 90, .int .i64 300, .int .i64 10] 64) :
    Calls Try.prog 24 #[.slice (some ⟨b, 0, none⟩) 3 3, .slice (some ⟨c, 0, none⟩) 3 3] w (DisPost w) := by
  have hmk : ∀ u : World, (Instr.makeSlice 50 (.int .i64 3) (.int .i64 3)).run Try.prog u = .ok (.slice (some ⟨u.heap.size, 0, none⟩) 3 3) (u.alloc (.cells #[.int .i64 0, .int .i64 0, .int .i64 0, .int .i64 0, .int .i64 0, .int .i64 0] 63)) := fun _ => by kernel_rfl
  have HB := Lib.hid hb; have HC := Lib.hid hc
  have lb := hb.lt; have lc := hc.lt
  clear hb hc
  go_enter Try.func24, Try.ntmps24
  go_wp2_with fail
  refine (chkBars_ex b _ HB.out).mono ?_
  rintro e w1 ⟨rfl, h1⟩
  have B1 : Below w.heap.size w w1 := h1
  have z1 := B1.size
  clear h1
  go_wp2_with fail
  have HBw := Lib.hid (HB.out.keep B1)
  have lbw := HBw.out.lt
  have CL := Lib.hid (fun (y : World) (hy : Below w1.heap.size w1 y) => loadsErr_ex c y ((HC.out.keep B1).keep hy))
  obtain ⟨k0, k1, k2, -⟩ := HBw.out.three
  go_upto_region 4 with fail
  go_cut [7] (fun s7 wx => s7 = .int .i64 0 ∧ Below w1.heap.size w1 wx)
  case first =>
    go_region_with (go_at_call 54; refine (CL.out _ (by (repeat' (first | (with_reducible exact Below.refl _ _) | (with_reducible assumption) | (with_reducible refine Below.drew ?_) | (with_reducible refine below_drewN ?_ _) | (with_reducible refine Below.setCell ?_ ?_ _) | (with_reducible refine Below.alloc ?_ ?_ _) | go_size | omega)))).mono ?_; rintro e w2 ⟨rfl, h2⟩; have hB2 : Below w1.heap.size w1 w2 := below_via (by (repeat' (first | (with_reducible exact Below.refl _ _) | (with_reducible assumption) | (with_reducible refine Below.drew ?_) | (with_reducible refine below_drewN ?_ _) | (with_reducible refine Below.setCell ?_ ?_ _) | (with_reducible refine Below.alloc ?_ ?_ _) | go_size | omega))) h2; clear h2; have hz2 := hB2.size)
    all_goals (go_wp2_with fail; go_meet; exact ⟨rfl, by assumption⟩)
  obtain ⟨rfl, hB2⟩ := hcut
  obtain ⟨w2, rfl⟩ : ∃ x : World, x = wc := ⟨_, rfl⟩
  have hz2 := hB2.size
  have B2 : Below w.heap.size w w2 := below_via B1 hB2
  have z2 := B2.size
  clear hB2 HBw CL B1
  go_wp2_with fail
  have RS := Lib.hid ((Box.new w2 #[.int .i64 0, .int .i64 0, .int .i64 0, .int .i64 0, .int .i64 0, .int .i64 0] 63 (n := w2.heap.size) rfl).alloc (.cells #[.int .i64 0, .int .i64 1] 63))
  have TS := Lib.hid (Box.new (w2.alloc (.cells #[.int .i64 0, .int .i64 0, .int .i64 0, .int .i64 0, .int .i64 0, .int .i64 0] 63)) #[.int .i64 0, .int .i64 1] 63 (n := w2.heap.size + 1) (by simp))
  have BU : Below w.heap.size w ((w2.alloc (.cells #[.int .i64 0, .int .i64 0, .int .i64 0, .int .i64 0, .int .i64 0, .int .i64 0] 63)).alloc (.cells #[.int .i64 0, .int .i64 1] 63)) := by (repeat' (first | (with_reducible exact Below.refl _ _) | (with_reducible assumption) | (with_reducible refine Below.drew ?_) | (with_reducible refine below_drewN ?_ _) | (with_reducible refine Below.setCell ?_ ?_ _) | (with_reducible refine Below.alloc ?_ ?_ _) | go_size | omega))
  have zu : ((w2.alloc (.cells #[.int .i64 0, .int .i64 0, .int .i64 0, .int .i64 0, .int .i64 0, .int .i64 0] 63)).alloc (.cells #[.int .i64 0, .int .i64 1] 63)).heap.size = w2.heap.size + 1 + 1 := by simp
  have gw : w.heap.size ≤ w2.heap.size := z2
  clear hmk
  generalize ((w2.alloc (.cells #[.int .i64 0, .int .i64 0, .int .i64 0, .int .i64 0, .int .i64 0, .int .i64 0] 63)).alloc (.cells #[.int .i64 0, .int .i64 1] 63)) = u at *
  generalize hxb : w2.heap.size = xb at *
  clear hxb B2 z2 hz2
  refine (stretches_ex b c u (HB.out.keep BU) (HC.out.keep BU)).mono ?_
  rintro e v0 ⟨h0, h1, rfl, hS, ho0, ho1, hv⟩
  have BV : Below w.heap.size w v0 := below_via BU hv
  have S0 := Lib.hid hS; have O0 := Lib.hid ho0; have O1 := Lib.hid ho1
  have R0 := Lib.hid (RS.out.keep hv); have T0 := Lib.hid (TS.out.keep hv)
  have zv := hv.size
  clear hS hv RS TS BU
  obtain ⟨g0, c0, rfl, hg0, hg0'⟩ := ho0.form (by omega)
  obtain ⟨g1, c1, rfl, hg1, hg1'⟩ := ho1.form (by omega)
  clear ho0 ho1
  rw [zu] at S0 O0 O1 hg0 hg1 zv
  rw [zu]
  have gu : w.heap.size ≤ xb + 1 + 1 := by omega
  clear zu
  go_wp2_with fail
  refine wp_loop_rounds 3 ?_
  rw [rounds_succ]
  have s0 := S0.out.cell 0; have s1 := S0.out.cell 1; have s2 := S0.out.cell 2; have s3 := S0.out.cell 3; have ls := S0.out.lt
  simp at s0 s1 s2 s3
  go_wp2_with fail
  have Ba : Below v0.heap.size v0 (v0.alloc (.cells #[.int .i64 0, .int .i64 100, .int .i64 0, .slice (some ⟨g0, 0, none⟩) 1 c0] 103)) := by go_grown
  have X := Lib.hid (Box.new v0 #[.int .i64 0, .int .i64 100, .int .i64 0, .slice (some ⟨g0, 0, none⟩) 1 c0] 103 rfl)
  have Sa := Lib.hid (S0.out.keep Ba); have Ra := Lib.hid (R0.out.keep Ba); have Ta := Lib.hid (T0.out.keep Ba); have P0 := Lib.hid (own_keep O0.out Ba); have P1 := Lib.hid (own_keep O1.out Ba)
  have BWa : Below w.heap.size w (v0.alloc (.cells #[.int .i64 0, .int .i64 100, .int .i64 0, .slice (some ⟨g0, 0, none⟩) 1 c0] 103)) := by (repeat' (first | (with_reducible exact Below.refl _ _) | (with_reducible assumption) | (with_reducible refine Below.drew ?_) | (with_reducible refine below_drewN ?_ _) | (with_reducible refine Below.setCell ?_ ?_ _) | (with_reducible refine Below.alloc ?_ ?_ _) | go_size | omega))
  have xlt : xb + 1 + 1 < v0.heap.size := S0.out.lt
  clear s0 s1 s2 s3 ls S0 R0 T0 O0 O1 BV Ba
  generalize hxx : v0.heap.size = x at *
  generalize (v0.alloc (.cells #[.int .i64 0, .int .i64 100, .int .i64 0, .slice (some ⟨g0, 0, none⟩) 1 c0] 103)) = u1 at *
  clear hxx
  have CR := Lib.hid (reactions_any 0 100 0 (some ⟨g0, 0, none⟩) 1 c0 [(50, 60)] (by simp) u1 (loads_of_row (L := [(50, 60)]) P0.out ((P0.out.lt g0 rfl).2)))
  rw [show sumA 100 (come 100 [(50, 60)]) = 3000 by decide +kernel, show sumB 0 (come 100 [(50, 60)]) = 3000 by decide +kernel] at CR
  refine CR.out.mono ?_
  rintro e w3 ⟨rfl, h3⟩
  have S := Lib.hid (Sa.out.keep h3); have R := Lib.hid (Ra.out.keep h3); have T := Lib.hid (Ta.out.keep h3); have O0 := Lib.hid (own_keep P0.out h3); have O1 := Lib.hid (own_keep P1.out h3); have X3 := Lib.hid (X.out.keep h3)
  have BV := BWa.trans (h3.mono BWa.size)
  clear h3 Sa Ra Ta P0 P1 X BWa CR
  have lx := X3.out.lt; have lt := T.out.lt
  have CO := Lib.hid (fun y => over_any 0 100 0 3000 (some ⟨g0, 0, none⟩) 1 c0 y (by omega) (by omega) (by omega) (by omega) (by omega))
  rw [show redN 3000 (100 - 0) = 30 by decide +kernel, show redD 3000 (100 - 0) = 1 by decide +kernel] at CO
  have CA := Lib.hid (fun y => added_any 0 1 30 1 y (by omega) (by omega) (by omega) (by omega) (by omega) (by omega) (by omega) (by omega))
  rw [show redN (0 * 1 + 30 * 1) (1 * 1) = 30 by decide +kernel, show redD (0 * 1 + 30 * 1) (1 * 1) = 1 by decide +kernel] at CA
  have zb := BV.size
  go_wp2_with fail
  have K := Lib.hid (fun (w' : World) (hw : Below w3.heap.size w3 w') => show (w'.cell? ⟨xb + 1, 0, none⟩ = some (.int .i64 0) ∧ w'.cell? ⟨xb + 1, 1, none⟩ = some (.int .i64 1)) ∧ (w'.cell? ⟨x, 0, none⟩ = some (.int .i64 0) ∧ w'.cell? ⟨x, 1, none⟩ = some (.int .i64 100) ∧ w'.cell? ⟨x, 2, none⟩ = some (.int .i64 0) ∧ w'.cell? ⟨x, 3, none⟩ = some (.slice (some ⟨g0, 0, none⟩) 1 c0)) from ⟨⟨(Box.keepB (by omega) (T.out) hw).cell 0, (Box.keepB (by omega) (T.out) hw).cell 1⟩, ⟨(Box.keepB (by omega) (X3.out) hw).cell 0, (Box.keepB (by omega) (X3.out) hw).cell 1, (Box.keepB (by omega) (X3.out) hw).cell 2, (Box.keepB (by omega) (X3.out) hw).cell 3⟩⟩)
  go_region_held3 (fun w' => (w'.cell? ⟨xb + 1, 0, none⟩ = some (.int .i64 0) ∧ w'.cell? ⟨xb + 1, 1, none⟩ = some (.int .i64 1)) ∧ (w'.cell? ⟨x, 0, none⟩ = some (.int .i64 0) ∧ w'.cell? ⟨x, 1, none⟩ = some (.int .i64 100) ∧ w'.cell? ⟨x, 2, none⟩ = some (.int .i64 0) ∧ w'.cell? ⟨x, 3, none⟩ = some (.slice (some ⟨g0, 0, none⟩) 1 c0)))
    ((first | (refine K.out _ ?_; (repeat' (first | (with_reducible exact Below.refl _ _) | (with_reducible assumption) | (with_reducible refine Below.drew ?_) | (with_reducible refine below_drewN ?_ _) | (with_reducible refine Below.setCell ?_ ?_ _) | (with_reducible refine Below.alloc ?_ ?_ _) | go_size | omega)); done) | (refine ⟨⟨?_, ?_⟩, ?_, ?_, ?_, ?_⟩ <;> (rw [World.cell?_of_block ((Below.heap_setCell _ _ _ _ (by first | (simp; done) | (simp; omega))).trans (Below.heap_setCell _ _ _ _ (by first | (simp; done) | (simp; omega))))]; assumption))))
    (first | (go_at_call 58; refine (CO.out _).mono ?_; rintro e w4 ⟨rfl, h4⟩; have hB4 : Below w3.heap.size w3 w4 := below_via (by (repeat' (first | (with_reducible exact Below.refl _ _) | (with_reducible assumption) | (with_reducible refine Below.drew ?_) | (with_reducible refine below_drewN ?_ _) | (with_reducible refine Below.setCell ?_ ?_ _) | (with_reducible refine Below.alloc ?_ ?_ _) | go_size | omega))) h4; clear h4; have hz4 := hB4.size; obtain ⟨⟨k0_0, k0_1⟩, k1_0, k1_1, k1_2, k1_3⟩ := K.out w4 hB4) | (go_at_call 57; refine (CA.out _).mono ?_; rintro e w5 ⟨rfl, h5⟩; have hB5 : Below w3.heap.size w3 w5 := below_via (by (repeat' (first | (with_reducible exact Below.refl _ _) | (with_reducible assumption) | (with_reducible refine Below.drew ?_) | (with_reducible refine below_drewN ?_ _) | (with_reducible refine Below.setCell ?_ ?_ _) | (with_reducible refine Below.alloc ?_ ?_ _) | go_size | omega))) h5; clear h5; have hz5 := hB5.size; obtain ⟨⟨k0_0, k0_1⟩, k1_0, k1_1, k1_2, k1_3⟩ := K.out w5 hB5; have r0 := (R.out.keep hB5).cell 0; have r1 := (R.out.keep hB5).cell 1; have f0 := (R.out.keep hB5).free 0; have f1 := (R.out.keep hB5).free 1; have lr := (R.out.keep hB5).lt; simp at r0 r1))
  have S5 : Hid (Box ((w5.setCell ⟨xb, 0, none⟩ (.int .i64 30)).setCell ⟨xb, 1, none⟩ (.int .i64 1)) (xb + 1 + 1) #[.int .i64 0, .int .i64 100, .int .i64 0, .slice (some ⟨g0, 0, none⟩) 1 c0, .int .i64 100, .int .i64 300, .int .i64 0, .slice (some ⟨g1, 0, none⟩) 2 c1] 103) := Lib.hid (((S.out.keep hB5).other _ _ (by first | (simp; done) | (simp; omega))).other _ _ (by first | (simp; done) | (simp; omega)))
  have R5 : Hid (Box ((w5.setCell ⟨xb, 0, none⟩ (.int .i64 30)).setCell ⟨xb, 1, none⟩ (.int .i64 1)) xb #[.int .i64 30, .int .i64 1, .int .i64 0, .int .i64 0, .int .i64 0, .int .i64 0] 63) := Lib.hid (((R.out.keep hB5).set 0 _).set 1 _)
  have T5 : Hid (Box ((w5.setCell ⟨xb, 0, none⟩ (.int .i64 30)).setCell ⟨xb, 1, none⟩ (.int .i64 1)) (xb + 1) #[.int .i64 0, .int .i64 1] 63) := Lib.hid (((T.out.keep hB5).other _ _ (by first | (simp; done) | (simp; omega))).other _ _ (by first | (simp; done) | (simp; omega)))
  have X5 : Hid (Box ((w5.setCell ⟨xb, 0, none⟩ (.int .i64 30)).setCell ⟨xb, 1, none⟩ (.int .i64 1)) x #[.int .i64 0, .int .i64 100, .int .i64 0, .slice (some ⟨g0, 0, none⟩) 1 c0] 103) := Lib.hid (((X3.out.keep hB5).other _ _ (by first | (simp; done) | (simp; omega))).other _ _ (by first | (simp; done) | (simp; omega)))
  have P0 := Lib.hid (own_set (own_set (own_keep O0.out hB5) ⟨xb, 0, none⟩ (.int .i64 30) (by simp; omega)) ⟨xb, 1, none⟩ (.int .i64 1) (by simp; omega))
  have P1 := Lib.hid (own_set (own_set (own_keep O1.out hB5) ⟨xb, 0, none⟩ (.int .i64 30) (by simp; omega)) ⟨xb, 1, none⟩ (.int .i64 1) (by simp; omega))
  have B5 : Below w.heap.size w w5 := BV.trans (hB5.mono zb)
  have BV5 : Below w.heap.size w ((w5.setCell ⟨xb, 0, none⟩ (.int .i64 30)).setCell ⟨xb, 1, none⟩ (.int .i64 1)) := by (repeat' (first | (with_reducible exact Below.refl _ _) | (with_reducible assumption) | (with_reducible refine Below.drew ?_) | (with_reducible refine below_drewN ?_ _) | (with_reducible refine Below.setCell ?_ ?_ _) | (with_reducible refine Below.alloc ?_ ?_ _) | go_size | omega))
  clear K k0_0 k0_1 k1_0 k1_1 k1_2 k1_3 r0 r1 f0 f1 lr S R T X3 O0 O1 BV B5 hB5 CO CA
  generalize ((w5.setCell ⟨xb, 0, none⟩ (.int .i64 30)).setCell ⟨xb, 1, none⟩ (.int .i64 1)) = u5 at *
  have x0 := X5.out.cell 0; have x1 := X5.out.cell 1; have x2 := X5.out.cell 2; have x3 := X5.out.cell 3; have lx5 := X5.out.lt
  simp at x0 x1 x2 x3
  have CO := Lib.hid (fun y => over_any 0 100 0 3000 (some ⟨g0, 0, none⟩) 1 c0 y (by omega) (by omega) (by omega) (by omega) (by omega))
  rw [show redN 3000 (100 - 0) = 30 by decide +kernel, show redD 3000 (100 - 0) = 1 by decide +kernel] at CO
  go_wp2_with fail
  refine (CO.out _).mono ?_
  rintro e w6 ⟨rfl, h6⟩
  have R6 := Lib.hid (R5.out.keep h6); have T6 := Lib.hid (T5.out.keep h6); have S6 := Lib.hid (S5.out.keep h6); have O0 := Lib.hid (own_keep P0.out h6); have O1 := Lib.hid (own_keep P1.out h6)
  have B6 : Below w.heap.size w w6 := BV5.trans (h6.mono BV5.size)
  clear h6 x0 x1 x2 x3 R5 T5 S5 X5 P0 P1 BV5 CO
  obtain ⟨t0, t1, f0, f1⟩ := T6.out.two
  have lt6 := T6.out.lt
  go_wp2_with fail
  have S0 : Hid (Box ((w6.setCell ⟨xb + 1, 0, none⟩ (.int .i64 30)).setCell ⟨xb + 1, 1, none⟩ (.int .i64 1)) (xb + 1 + 1) #[.int .i64 0, .int .i64 100, .int .i64 0, .slice (some ⟨g0, 0, none⟩) 1 c0, .int .i64 100, .int .i64 300, .int .i64 0, .slice (some ⟨g1, 0, none⟩) 2 c1] 103) := Lib.hid ((S6.out.other _ _ (by first | (simp; done) | (simp; omega))).other _ _ (by first | (simp; done) | (simp; omega)))
  have R0 : Hid (Box ((w6.setCell ⟨xb + 1, 0, none⟩ (.int .i64 30)).setCell ⟨xb + 1, 1, none⟩ (.int .i64 1)) xb #[.int .i64 30, .int .i64 1, .int .i64 0, .int .i64 0, .int .i64 0, .int .i64 0] 63) := Lib.hid ((R6.out.other _ _ (by first | (simp; done) | (simp; omega))).other _ _ (by first | (simp; done) | (simp; omega)))
  have T0 : Hid (Box ((w6.setCell ⟨xb + 1, 0, none⟩ (.int .i64 30)).setCell ⟨xb + 1, 1, none⟩ (.int .i64 1)) (xb + 1) #[.int .i64 30, .int .i64 1] 63) := Lib.hid ((T6.out.set 0 _).set 1 _)
  have Q0 := Lib.hid (own_set (own_set O0.out ⟨xb + 1, 0, none⟩ (.int .i64 30) (by simp)) ⟨xb + 1, 1, none⟩ (.int .i64 1) (by simp))
  have Q1 := Lib.hid (own_set (own_set O1.out ⟨xb + 1, 0, none⟩ (.int .i64 30) (by simp)) ⟨xb + 1, 1, none⟩ (.int .i64 1) (by simp))
  have BV : Below w.heap.size w ((w6.setCell ⟨xb + 1, 0, none⟩ (.int .i64 30)).setCell ⟨xb + 1, 1, none⟩ (.int .i64 1)) := by (repeat' (first | (with_reducible exact Below.refl _ _) | (with_reducible assumption) | (with_reducible refine Below.drew ?_) | (with_reducible refine below_drewN ?_ _) | (with_reducible refine Below.setCell ?_ ?_ _) | (with_reducible refine Below.alloc ?_ ?_ _) | go_size | omega))
  clear t0 t1 f0 f1 lt6 R6 T6 S6 B6 O0 O1
  have O0 := Q0; have O1 := Q1
  clear Q0 Q1
  generalize ((w6.setCell ⟨xb + 1, 0, none⟩ (.int .i64 30)).setCell ⟨xb + 1, 1, none⟩ (.int .i64 1)) = v1 at *
  rw [rounds_succ]
  have s0 := S0.out.cell 4; have s1 := S0.out.cell 5; have s2 := S0.out.cell 6; have s3 := S0.out.cell 7; have ls := S0.out.lt
  simp at s0 s1 s2 s3
  go_wp2_with fail
  have Ba : Below v1.heap.size v1 (v1.alloc (.cells #[.int .i64 100, .int .i64 300, .int .i64 0, .slice (some ⟨g1, 0, none⟩) 2 c1] 103)) := by go_grown
  have X := Lib.hid (Box.new v1 #[.int .i64 100, .int .i64 300, .int .i64 0, .slice (some ⟨g1, 0, none⟩) 2 c1] 103 rfl)
  have Sa := Lib.hid (S0.out.keep Ba); have Ra := Lib.hid (R0.out.keep Ba); have Ta := Lib.hid (T0.out.keep Ba); have P0 := Lib.hid (own_keep O0.out Ba); have P1 := Lib.hid (own_keep O1.out Ba)
  have BWa : Below w.heap.size w (v1.alloc (.cells #[.int .i64 100, .int .i64 300, .int .i64 0, .slice (some ⟨g1, 0, none⟩) 2 c1] 103)) := by (repeat' (first | (with_reducible exact Below.refl _ _) | (with_reducible assumption) | (with_reducible refine Below.drew ?_) | (with_reducible refine below_drewN ?_ _) | (with_reducible refine Below.setCell ?_ ?_ _) | (with_reducible refine Below.alloc ?_ ?_ _) | go_size | omega))
  have xlt : xb + 1 + 1 < v1.heap.size := S0.out.lt
  clear s0 s1 s2 s3 ls S0 R0 T0 O0 O1 BV Ba
  generalize hxx : v1.heap.size = x at *
  generalize (v1.alloc (.cells #[.int .i64 100, .int .i64 300, .int .i64 0, .slice (some ⟨g1, 0, none⟩) 2 c1] 103)) = u1 at *
  clear hxx
  have CR := Lib.hid (reactions_any 100 300 0 (some ⟨g1, 0, none⟩) 2 c1 [(200, 90), (300, 10)] (by simp) u1 (loads_of_row (L := [(200, 90), (300, 10)]) P1.out ((P1.out.lt g1 rfl).2)))
  rw [show sumA 300 (come 300 [(200, 90), (300, 10)]) = 9000 by decide +kernel, show sumB 100 (come 300 [(200, 90), (300, 10)]) = 11000 by decide +kernel] at CR
  refine CR.out.mono ?_
  rintro e w3 ⟨rfl, h3⟩
  have S := Lib.hid (Sa.out.keep h3); have R := Lib.hid (Ra.out.keep h3); have T := Lib.hid (Ta.out.keep h3); have O0 := Lib.hid (own_keep P0.out h3); have O1 := Lib.hid (own_keep P1.out h3); have X3 := Lib.hid (X.out.keep h3)
  have BV := BWa.trans (h3.mono BWa.size)
  clear h3 Sa Ra Ta P0 P1 X BWa CR
  have lx := X3.out.lt; have lt := T.out.lt
  have CO := Lib.hid (fun y => over_any 100 300 0 9000 (some ⟨g1, 0, none⟩) 2 c1 y (by omega) (by omega) (by omega) (by omega) (by omega))
  rw [show redN 9000 (300 - 100) = 45 by decide +kernel, show redD 9000 (300 - 100) = 1 by decide +kernel] at CO
  have CA := Lib.hid (fun y => added_any 30 1 45 1 y (by omega) (by omega) (by omega) (by omega) (by omega) (by omega) (by omega) (by omega))
  rw [show redN (30 * 1 + 45 * 1) (1 * 1) = 75 by decide +kernel, show redD (30 * 1 + 45 * 1) (1 * 1) = 1 by decide +kernel] at CA
  have zb := BV.size
  go_wp2_with fail
  have K := Lib.hid (fun (w' : World) (hw : Below w3.heap.size w3 w') => show (w'.cell? ⟨xb + 1, 0, none⟩ = some (.int .i64 30) ∧ w'.cell? ⟨xb + 1, 1, none⟩ = some (.int .i64 1)) ∧ (w'.cell? ⟨x, 0, none⟩ = some (.int .i64 100) ∧ w'.cell? ⟨x, 1, none⟩ = some (.int .i64 300) ∧ w'.cell? ⟨x, 2, none⟩ = some (.int .i64 0) ∧ w'.cell? ⟨x, 3, none⟩ = some (.slice (some ⟨g1, 0, none⟩) 2 c1)) from ⟨⟨(Box.keepB (by omega) (T.out) hw).cell 0, (Box.keepB (by omega) (T.out) hw).cell 1⟩, ⟨(Box.keepB (by omega) (X3.out) hw).cell 0, (Box.keepB (by omega) (X3.out) hw).cell 1, (Box.keepB (by omega) (X3.out) hw).cell 2, (Box.keepB (by omega) (X3.out) hw).cell 3⟩⟩)
  go_region_held3 (fun w' => (w'.cell? ⟨xb + 1, 0, none⟩ = some (.int .i64 30) ∧ w'.cell? ⟨xb + 1, 1, none⟩ = some (.int .i64 1)) ∧ (w'.cell? ⟨x, 0, none⟩ = some (.int .i64 100) ∧ w'.cell? ⟨x, 1, none⟩ = some (.int .i64 300) ∧ w'.cell? ⟨x, 2, none⟩ = some (.int .i64 0) ∧ w'.cell? ⟨x, 3, none⟩ = some (.slice (some ⟨g1, 0, none⟩) 2 c1)))
    ((first | (refine K.out _ ?_; (repeat' (first | (with_reducible exact Below.refl _ _) | (with_reducible assumption) | (with_reducible refine Below.drew ?_) | (with_reducible refine below_drewN ?_ _) | (with_reducible refine Below.setCell ?_ ?_ _) | (with_reducible refine Below.alloc ?_ ?_ _) | go_size | omega)); done) | (refine ⟨⟨?_, ?_⟩, ?_, ?_, ?_, ?_⟩ <;> (rw [World.cell?_of_block ((Below.heap_setCell _ _ _ _ (by first | (simp; done) | (simp; omega))).trans (Below.heap_setCell _ _ _ _ (by first | (simp; done) | (simp; omega))))]; assumption))))
    (first | (go_at_call 58; refine (CO.out _).mono ?_; rintro e w4 ⟨rfl, h4⟩; have hB4 : Below w3.heap.size w3 w4 := below_via (by (repeat' (first | (with_reducible exact Below.refl _ _) | (with_reducible assumption) | (with_reducible refine Below.drew ?_) | (with_reducible refine below_drewN ?_ _) | (with_reducible refine Below.setCell ?_ ?_ _) | (with_reducible refine Below.alloc ?_ ?_ _) | go_size | omega))) h4; clear h4; have hz4 := hB4.size; obtain ⟨⟨k0_0, k0_1⟩, k1_0, k1_1, k1_2, k1_3⟩ := K.out w4 hB4) | (go_at_call 57; refine (CA.out _).mono ?_; rintro e w5 ⟨rfl, h5⟩; have hB5 : Below w3.heap.size w3 w5 := below_via (by (repeat' (first | (with_reducible exact Below.refl _ _) | (with_reducible assumption) | (with_reducible refine Below.drew ?_) | (with_reducible refine below_drewN ?_ _) | (with_reducible refine Below.setCell ?_ ?_ _) | (with_reducible refine Below.alloc ?_ ?_ _) | go_size | omega))) h5; clear h5; have hz5 := hB5.size; obtain ⟨⟨k0_0, k0_1⟩, k1_0, k1_1, k1_2, k1_3⟩ := K.out w5 hB5; have r0 := (R.out.keep hB5).cell 2; have r1 := (R.out.keep hB5).cell 3; have f0 := (R.out.keep hB5).free 2; have f1 := (R.out.keep hB5).free 3; have lr := (R.out.keep hB5).lt; simp at r0 r1))
  have S5 : Hid (Box ((w5.setCell ⟨xb, 2, none⟩ (.int .i64 75)).setCell ⟨xb, 3, none⟩ (.int .i64 1)) (xb + 1 + 1) #[.int .i64 0, .int .i64 100, .int .i64 0, .slice (some ⟨g0, 0, none⟩) 1 c0, .int .i64 100, .int .i64 300, .int .i64 0, .slice (some ⟨g1, 0, none⟩) 2 c1] 103) := Lib.hid (((S.out.keep hB5).other _ _ (by first | (simp; done) | (simp; omega))).other _ _ (by first | (simp; done) | (simp; omega)))
  have R5 : Hid (Box ((w5.setCell ⟨xb, 2, none⟩ (.int .i64 75)).setCell ⟨xb, 3, none⟩ (.int .i64 1)) xb #[.int .i64 30, .int .i64 1, .int .i64 75, .int .i64 1, .int .i64 0, .int .i64 0] 63) := Lib.hid (((R.out.keep hB5).set 2 _).set 3 _)
  have T5 : Hid (Box ((w5.setCell ⟨xb, 2, none⟩ (.int .i64 75)).setCell ⟨xb, 3, none⟩ (.int .i64 1)) (xb + 1) #[.int .i64 30, .int .i64 1] 63) := Lib.hid (((T.out.keep hB5).other _ _ (by first | (simp; done) | (simp; omega))).other _ _ (by first | (simp; done) | (simp; omega)))
  have X5 : Hid (Box ((w5.setCell ⟨xb, 2, none⟩ (.int .i64 75)).setCell ⟨xb, 3, none⟩ (.int .i64 1)) x #[.int .i64 100, .int .i64 300, .int .i64 0, .slice (some ⟨g1, 0, none⟩) 2 c1] 103) := Lib.hid (((X3.out.keep hB5).other _ _ (by first | (simp; done) | (simp; omega))).other _ _ (by first | (simp; done) | (simp; omega)))
  have P0 := Lib.hid (own_set (own_set (own_keep O0.out hB5) ⟨xb, 2, none⟩ (.int .i64 75) (by simp; omega)) ⟨xb, 3, none⟩ (.int .i64 1) (by simp; omega))
  have P1 := Lib.hid (own_set (own_set (own_keep O1.out hB5) ⟨xb, 2, none⟩ (.int .i64 75) (by simp; omega)) ⟨xb, 3, none⟩ (.int .i64 1) (by simp; omega))
  have B5 : Below w.heap.size w w5 := BV.trans (hB5.mono zb)
  have BV5 : Below w.heap.size w ((w5.setCell ⟨xb, 2, none⟩ (.int .i64 75)).setCell ⟨xb, 3, none⟩ (.int .i64 1)) := by (repeat' (first | (with_reducible exact Below.refl _ _) | (with_reducible assumption) | (with_reducible refine Below.drew ?_) | (with_reducible refine below_drewN ?_ _) | (with_reducible refine Below.setCell ?_ ?_ _) | (with_reducible refine Below.alloc ?_ ?_ _) | go_size | omega))
  clear K k0_0 k0_1 k1_0 k1_1 k1_2 k1_3 r0 r1 f0 f1 lr S R T X3 O0 O1 BV B5 hB5 CO CA
  generalize ((w5.setCell ⟨xb, 2, none⟩ (.int .i64 75)).setCell ⟨xb, 3, none⟩ (.int .i64 1)) = u5 at *
  have x0 := X5.out.cell 0; have x1 := X5.out.cell 1; have x2 := X5.out.cell 2; have x3 := X5.out.cell 3; have lx5 := X5.out.lt
  simp at x0 x1 x2 x3
  have CO := Lib.hid (fun y => over_any 100 300 0 11000 (some ⟨g1, 0, none⟩) 2 c1 y (by omega) (by omega) (by omega) (by omega) (by omega))
  rw [show redN 11000 (300 - 100) = 55 by decide +kernel, show redD 11000 (300 - 100) = 1 by decide +kernel] at CO
  go_wp2_with fail
  refine (CO.out _).mono ?_
  rintro e w6 ⟨rfl, h6⟩
  have R6 := Lib.hid (R5.out.keep h6); have T6 := Lib.hid (T5.out.keep h6); have S6 := Lib.hid (S5.out.keep h6); have O0 := Lib.hid (own_keep P0.out h6); have O1 := Lib.hid (own_keep P1.out h6)
  have B6 : Below w.heap.size w w6 := BV5.trans (h6.mono BV5.size)
  clear h6 x0 x1 x2 x3 R5 T5 S5 X5 P0 P1 BV5 CO
  obtain ⟨t0, t1, f0, f1⟩ := T6.out.two
  have lt6 := T6.out.lt
  go_wp2_with fail
  have S0 : Hid (Box ((w6.setCell ⟨xb + 1, 0, none⟩ (.int .i64 55)).setCell ⟨xb + 1, 1, none⟩ (.int .i64 1)) (xb + 1 + 1) #[.int .i64 0, .int .i64 100, .int .i64 0, .slice (some ⟨g0, 0, none⟩) 1 c0, .int .i64 100, .int .i64 300, .int .i64 0, .slice (some ⟨g1, 0, none⟩) 2 c1] 103) := Lib.hid ((S6.out.other _ _ (by first | (simp; done) | (simp; omega))).other _ _ (by first | (simp; done) | (simp; omega)))
  have R0 : Hid (Box ((w6.setCell ⟨xb + 1, 0, none⟩ (.int .i64 55)).setCell ⟨xb + 1, 1, none⟩ (.int .i64 1)) xb #[.int .i64 30, .int .i64 1, .int .i64 75, .int .i64 1, .int .i64 0, .int .i64 0] 63) := Lib.hid ((R6.out.other _ _ (by first | (simp; done) | (simp; omega))).other _ _ (by first | (simp; done) | (simp; omega)))
  have T0 : Hid (Box ((w6.setCell ⟨xb + 1, 0, none⟩ (.int .i64 55)).setCell ⟨xb + 1, 1, none⟩ (.int .i64 1)) (xb + 1) #[.int .i64 55, .int .i64 1] 63) := Lib.hid ((T6.out.set 0 _).set 1 _)
  have Q0 := Lib.hid (own_set (own_set O0.out ⟨xb + 1, 0, none⟩ (.int .i64 55) (by simp)) ⟨xb + 1, 1, none⟩ (.int .i64 1) (by simp))
  have Q1 := Lib.hid (own_set (own_set O1.out ⟨xb + 1, 0, none⟩ (.int .i64 55) (by simp)) ⟨xb + 1, 1, none⟩ (.int .i64 1) (by simp))
  have BV : Below w.heap.size w ((w6.setCell ⟨xb + 1, 0, none⟩ (.int .i64 55)).setCell ⟨xb + 1, 1, none⟩ (.int .i64 1)) := by (repeat' (first | (with_reducible exact Below.refl _ _) | (with_reducible assumption) | (with_reducible refine Below.drew ?_) | (with_reducible refine below_drewN ?_ _) | (with_reducible refine Below.setCell ?_ ?_ _) | (with_reducible refine Below.alloc ?_ ?_ _) | go_size | omega))
  clear t0 t1 f0 f1 lt6 R6 T6 S6 B6 O0 O1
  have O0 := Q0; have O1 := Q1
  clear Q0 Q1
  generalize ((w6.setCell ⟨xb + 1, 0, none⟩ (.int .i64 55)).setCell ⟨xb + 1, 1, none⟩ (.int .i64 1)) = v2 at *
  rw [rounds_succ]
  obtain ⟨t0, t1, -⟩ := T0.out.two
  have r4 := R0.out.cell 4; have r5 := R0.out.cell 5; have f4 := R0.out.free 4; have f5 := R0.out.free 5; have lr := R0.out.lt; have lt := T0.out.lt
  simp at r4 r5
  go_wp2_with fail
  go_ret2
  exact ⟨xb, rfl, (R0.out.set 4 _).set 5 _, by (repeat' (first | (with_reducible exact Below.refl _ _) | (with_reducible assumption) | (with_reducible refine Below.drew ?_) | (with_reducible refine below_drewN ?_ _) | (with_reducible refine Below.setCell ?_ ?_ _) | (with_reducible refine Below.alloc ?_ ?_ _) | go_size | omega))⟩
end Go.Proofs.Ytahfliboanphkaa
