/-
  Forces moved: the reference's Move, and same.
-/
import Derived.Test.YtahfliboanphkaaMov
import Derived.Test.YtahfliboanphkaaBlc
import Derived.StillTailTactics
import Derived.Deep.DeepCutAuto
import Derived.Deep.DrawnRows
import Derived.Outline
namespace Go.Proofs.Ytahfliboanphkaa
open Go.RowKit
attribute [local go_sem ↓] Go.wp_at_zero Go.wp_at_succ
theorem store6 {w : World} {b : Nat} {x0 x1 x2 x3 x4 x5 : Value} {t : TypeId} (h : Box w b #[x0, x1, x2, x3, x4, x5] t) (u0 u1 u2 u3 u4 u5 : Value) : Box ((((((w.setCell ⟨b, 0, none⟩ u0).setCell ⟨b, 1, none⟩ u1).setCell ⟨b, 2, none⟩ u2).setCell ⟨b, 3, none⟩ u3).setCell ⟨b, 4, none⟩ u4).setCell ⟨b, 5, none⟩ u5) b #[u0, u1, u2, u3, u4, u5] t := (((((h.set 0 _).set 1 _).set 2 _).set 3 _).set 4 _).set 5 _
theorem plc_append (A B : List Pf) : plc (A ++ B) = plc A ++ plc B := by unfold plc; rw [List.flatMap_append]
def SmRel (l : List Pf) (w : World) (v : Value) (wr : World) : Prop := ∃ k : Nat, k ≤ l.length ∧ v = .int .i64 (k : Int) ∧ Drew w wr
set_option maxRecDepth 100000 in
set_option maxHeartbeats 3200000 in
theorem same_any (l : List Pf) (a b : Option Addr) (cap cap' : Nat) (w : World) (hl : l.length ≤ 400) (hp : PlAt w a l) (hq : PlAt w b l) :
    Calls Try.prog 21 #[.slice a l.length cap, .slice b l.length cap'] w fun e w' => e = .returned (.bool true) ∧ Below w.heap.size w w' := by
  have HP := Lib.hid hp; have HQ := Lib.hid hq
  clear hp hq
  go_enter Try.func21, Try.ntmps21
  go_wp2_with fail
  go_loopw [5] (SmRel l w) (fun i _ => l.length - (intOf i).toNat)
  case atStart => exact ⟨0, by omega, rfl, Drew.refl w⟩
  case round =>
    obtain ⟨k, hk, rfl, hd⟩ := hrel
    have hB := hd.below w.heap.size
    by_cases hkl : k < l.length
    · rcases HP.out.keep hB with h0 | ⟨g, o, rfl, hgl, hc⟩
      · rw [h0] at hkl; simp at hkl
      rcases HQ.out.keep hB with h0 | ⟨g', o', rfl, hgl', hc'⟩
      · rw [h0] at hkl; simp at hkl
      obtain ⟨c0, c1, c2, c3, c4, c5⟩ := hc k hkl
      obtain ⟨d0, d1, d2, d3, d4, d5⟩ := hc' k hkl
      clear hc hc'
      rcases hlk : l[k] with ⟨x, y, z, p, q, r⟩
      rw [hlk] at c0 c1 c2 c3 c4 c5 d0 d1 d2 d3 d4 d5
      dsimp only at c0 c1 c2 c3 c4 c5 d0 d1 d2 d3 d4 d5
      clear hlk
      have EQ := fun v => eqPul x y z p q r x y z p q r v
      simp only [beq_self_eq_true, Bool.and_self] at EQ
      have i0 : (0 : Int) ≤ (k : Int) := by omega
      have i1 : (k : Int) < (l.length : Int) := by omega
      go_wp2_with fail
      go_quiet (fail)
      go_wp2_with fail
      go_roundw
      case rel => exact ⟨k + 1, by omega, by simp, hd.more _⟩
      case measure => simp [intOf]; omega
    · obtain rfl : k = l.length := by omega
      go_wp2_with fail
      go_ret
      exact ⟨rfl, hB⟩
def RmRel (b0 b1 b2 : Int) (l : List Pf) (w : World) (v6 v7 : Value) (wr : World) : Prop :=
  ∃ k : Nat, k ≤ l.length ∧ v7 = .int .i64 (k : Int) ∧ mvE b0 b1 b2 (l.drop k) = mvE b0 b1 b2 l ∧ wr.ownsRow (w.heap.size + 1) 27 6 v6 k (plc ((l.take k).map (mv b0 b1 b2))) ∧ Box wr w.heap.size #[.int .i64 b0, .int .i64 b1, .int .i64 b2] 23 ∧ w.heap.size < wr.heap.size ∧ Below w.heap.size w wr
set_option maxRecDepth 100000 in
set_option maxHeartbeats 3200000 in
theorem rmove_any (l : List Pf) (a : Option Addr) (cap : Nat) (b0 b1 b2 : Int) (w : World) (hl : l.length ≤ 400) (ho : okL l) (hp : PlAt w a l) :
    Calls Try.prog 20 #[.slice a l.length cap, vec b0 b1 b2] w (MvPost b0 b1 b2 l w) := by
  obtain ⟨i0, hi0, hz0, hz1, hz2⟩ := info_parts infoP
  have HP := Lib.hid hp; have HO := Lib.hid ho
  clear hp ho
  go_enter Try.func20, Try.ntmps20
  go_wp2_with fail
  go_loopw [6, 7] (RmRel b0 b1 b2 l w) (fun _ i _ => l.length - (intOf i).toNat)
  case atStart => exact ⟨0, by omega, rfl, by rw [List.drop_zero], World.ownsRow_nil _ _ _ _, Box.new _ _ _ rfl, by simp, by (repeat' (first | (with_reducible exact Below.refl _ _) | (with_reducible assumption) | (with_reducible refine Below.drew ?_) | (with_reducible refine below_drewN ?_ _) | (with_reducible refine Below.setCell ?_ ?_ _) | (with_reducible refine Below.alloc ?_ ?_ _) | go_size | omega))⟩
  case round =>
    obtain ⟨k, hk, rfl, hd, how, hbx, hsz, hB⟩ := hrel
    have HD := Lib.hid hd; have HOW := Lib.hid how; have RB := Lib.hid hbx
    clear hd how hbx
    by_cases hkl : k < l.length
    · rcases HP.out.keep hB with h0 | ⟨b, o, rfl, hbl, hc⟩
      · rw [h0] at hkl; simp at hkl
      obtain ⟨c0, c1, c2, c3, c4, c5⟩ := hc k hkl
      clear hc
      rcases hlk : l[k] with ⟨x, y, z, p, q, r⟩
      rw [hlk] at c0 c1 c2 c3 c4 c5
      have HV := Lib.hid hlk
      have hpl := (badP_no (HO.out.2 _ (List.getElem_mem hkl))).1
      rw [hlk] at hpl
      clear hlk
      dsimp only at c0 c1 c2 c3 c4 c5 hpl
      have HPL := Lib.hid hpl; clear hpl
      obtain ⟨m0, m1, m2, -⟩ := RB.out.three
      have i0' : (0 : Int) ≤ (k : Int) := by omega
      have i1' : (k : Int) < (l.length : Int) := by omega
      cases hb1 : beyV 2000000 b0 b1 b2
      · obtain ⟨h0, h1, h2⟩ : inR b0 (-2000000) 2000000 = true ∧ inR b1 (-2000000) 2000000 = true ∧ inR b2 (-2000000) 2000000 = true := by
          have := beyV_no hb1; unfold Big at this; unfold inR; simp; omega
        have CM := Lib.hid (fun u => rplus_any x y z b0 b1 b2 u (HPL.out.up (by omega)) ((beyV_no hb1).up (by omega)))
        have CI := Lib.hid (fun u => risPlace_any (x + b0) (y + b1) (z + b2) u)
        rw [szB_bey] at CI
        have hby := (show mvBad b0 b1 b2 l[k] = (beyV 2000000 b0 b1 b2 || beyV 1000000 (x + b0) (y + b1) (z + b2)) by rw [HV.out]; rfl)
        rw [hb1, Bool.false_or] at hby
        clear hb1
        generalize hb2 : beyV 1000000 (x + b0) (y + b1) (z + b2) = bb at *
        have HBY := Lib.hid hby; clear hby hb2
        generalize hx : x + b0 = X at *
        generalize hy : y + b1 = Y at *
        generalize hz : z + b2 = Z at *
        have HX := Lib.hid (And.intro hx (And.intro hy hz)); clear hx hy hz
        go_wp2_with fail
        refine wp_loop_rounds 4 ?_
        iterate 4 (rw [rounds_succ]; go_wp2_with (go_at_call 32; refine (Within_any _ _ _ _).mono ?_; rintro e w' ⟨rfl, rfl⟩))
        clear h0 h1 h2
        obtain ⟨u, rfl⟩ : ∃ x : World, x = w' := ⟨_, rfl⟩
        have lrb := RB.out.lt
        clear c0 c1 c2 c3 c4 c5 m0 m1 m2
        have HC := Lib.hid (fun (w' : World) (hw : Below u.heap.size u w') => show (w'.cell? ⟨b, o + k * 6, none⟩ = some (.int .i64 x) ∧ w'.cell? ⟨b, o + k * 6 + 1, none⟩ = some (.int .i64 y) ∧ w'.cell? ⟨b, o + k * 6 + 2, none⟩ = some (.int .i64 z) ∧ w'.cell? ⟨b, o + k * 6 + 3, none⟩ = some (.int .i64 p) ∧ w'.cell? ⟨b, o + k * 6 + 4, none⟩ = some (.int .i64 q) ∧ w'.cell? ⟨b, o + k * 6 + 5, none⟩ = some (.int .i64 r)) ∧ (w'.cell? ⟨w.heap.size, 0, none⟩ = some (.int .i64 b0) ∧ w'.cell? ⟨w.heap.size, 1, none⟩ = some (.int .i64 b1) ∧ w'.cell? ⟨w.heap.size, 2, none⟩ = some (.int .i64 b2)) from by
          have hp' := HP.out.keep hB
          rcases hp' with h0 | ⟨b', o', hbo, hbl', hc⟩
          · rw [h0] at hkl; simp at hkl
          · cases hbo
            have hc' := hc k hkl
            rw [HV.out] at hc'
            refine ⟨?_, (RB.out.keep hw).cell 0, (RB.out.keep hw).cell 1, (RB.out.keep hw).cell 2⟩
            rw [(bcell hw).1 b _ hbl, (bcell hw).1 b _ hbl, (bcell hw).1 b _ hbl, (bcell hw).1 b _ hbl, (bcell hw).1 b _ hbl, (bcell hw).1 b _ hbl]
            exact hc')
        go_cut [9] (fun s9 wx => ∃ xb : Nat, s9 = .pointer (some ⟨xb, 0, none⟩) ∧ Box wx xb #[.int .i64 X, .int .i64 Y, .int .i64 Z, .int .i64 p, .int .i64 q, .int .i64 r] 27 ∧ Below u.heap.size u wx)
        case first =>
          obtain ⟨⟨c0, c1, c2, c3, c4, c5⟩, m0, m1, m2⟩ := HC.out u (Below.refl _ _)
          go_region_held3 (fun w' => (w'.cell? ⟨b, o + k * 6, none⟩ = some (.int .i64 x) ∧ w'.cell? ⟨b, o + k * 6 + 1, none⟩ = some (.int .i64 y) ∧ w'.cell? ⟨b, o + k * 6 + 2, none⟩ = some (.int .i64 z) ∧ w'.cell? ⟨b, o + k * 6 + 3, none⟩ = some (.int .i64 p) ∧ w'.cell? ⟨b, o + k * 6 + 4, none⟩ = some (.int .i64 q) ∧ w'.cell? ⟨b, o + k * 6 + 5, none⟩ = some (.int .i64 r)) ∧ (w'.cell? ⟨w.heap.size, 0, none⟩ = some (.int .i64 b0) ∧ w'.cell? ⟨w.heap.size, 1, none⟩ = some (.int .i64 b1) ∧ w'.cell? ⟨w.heap.size, 2, none⟩ = some (.int .i64 b2)))
            ((refine HC.out _ ?_; (repeat' (first | (with_reducible exact Below.refl _ _) | (with_reducible assumption) | (with_reducible refine Below.drew ?_) | (with_reducible refine below_drewN ?_ _) | (with_reducible refine Below.setCell ?_ ?_ _) | (with_reducible refine Below.alloc ?_ ?_ _) | go_size | omega)); done))
            (first | (go_at_call 49; refine (CM.out _).mono ?_; rintro e w8 ⟨rfl, h8⟩; (first | have NX := Lib.hid ((Box.new u #[.int .i64 0, .int .i64 0, .int .i64 0, .int .i64 0, .int .i64 0, .int .i64 0] 27 (n := u.heap.size) rfl).keep h8) | have NX := Lib.hid ((Box.new u.drew #[.int .i64 0, .int .i64 0, .int .i64 0, .int .i64 0, .int .i64 0, .int .i64 0] 27 (n := u.heap.size) rfl).keep h8) | skip); have hB8 : Below u.heap.size u w8 := below_via (by (repeat' (first | (with_reducible exact Below.refl _ _) | (with_reducible assumption) | (with_reducible refine Below.drew ?_) | (with_reducible refine below_drewN ?_ _) | (with_reducible refine Below.setCell ?_ ?_ _) | (with_reducible refine Below.alloc ?_ ?_ _) | go_size | omega))) h8; clear h8; have hz8 := hB8.size; obtain ⟨⟨k0, k1, k2, k3, k4, k5⟩, k6, k7, k8⟩ := HC.out w8 hB8; (first | (obtain ⟨⟨o0, o1, o2, o3, o4, o5⟩, f0, f1, f2, f3, f4, f5⟩ := box9 NX.out; have lo := NX.out.lt) | skip)))
          all_goals
            go_wp2_with fail
            go_meet
            refine ⟨_, rfl, ?_, by (repeat' (first | (with_reducible exact Below.refl _ _) | (with_reducible assumption) | (with_reducible refine Below.drew ?_) | (with_reducible refine below_drewN ?_ _) | (with_reducible refine Below.setCell ?_ ?_ _) | (with_reducible refine Below.alloc ?_ ?_ _) | go_size | omega))⟩
            first
              | (with_reducible exact Box.new _ _ _ rfl)
              | (with_reducible exact store6 NX.out _ _ _ _ _ _)
              | exact store6 NX.out _ _ _ _ _ _
        obtain ⟨xb, rfl, hxb, hcB⟩ := hcut
        obtain ⟨w5, rfl⟩ : ∃ x : World, x = wc := ⟨_, rfl⟩
        have B5 : Below w.heap.size w w5 := below_via hB hcB
        have X5 := Lib.hid hxb; have RB5 := Lib.hid (RB.out.keep hcB); have HOW5 := Lib.hid (owns_keep HOW.out hcB)
        have z5 := hcB.size
        clear hcB hxb HC lrb
        obtain ⟨⟨o0, o1, o2, o3, o4, o5⟩, -⟩ := box9 X5.out
        have lx := X5.out.lt
        go_wp2_with fail
        clear o0 o1 o2 o3 o4 o5 lx
        refine (CI.out _).mono ?_
        rintro e w6 ⟨rfl, h⟩
        have B6 : Below w.heap.size w w6 := below_via B5 h
        have X6 := Lib.hid (X5.out.keep h); have RB6 := Lib.hid (RB5.out.keep h); have HOW6 := Lib.hid (owns_keep HOW5.out h)
        have z6 := h.size
        clear h CI X5 RB5 HOW5
        cases bb
        · obtain ⟨⟨o0, o1, o2, o3, o4, o5⟩, -⟩ := box9 X6.out
          have lx := X6.out.lt
          have EK := Lib.hid (show plc ((l.take k).map (mv b0 b1 b2)) ++ [.int .i64 X, .int .i64 Y, .int .i64 Z, .int .i64 p, .int .i64 q, .int .i64 r] = plc ((l.take (k + 1)).map (mv b0 b1 b2)) from by
            rw [List.take_succ_eq_append_getElem hkl, List.map_append, plc_append, HV.out, ← HX.out.1, ← HX.out.2.1, ← HX.out.2.2]; rfl)
          go_wp2_with (at_builtin; refine wpList_append_lies _ rfl _ _ 22 rfl (w.heap.size + 1) 27 i0 _ 6 48 Try.underlying22 hi0 hz0 hz1 hz2 rfl (by omega) _ k _ rfl (HOW6.out.alloc _) ⟨w6.heap.size, 0, none⟩ 1 1 [.int .i64 X, .int .i64 Y, .int .i64 Z, .int .i64 p, .int .i64 q, .int .i64 r] rfl rfl (World.news_of_block (heap_alloc_new w6 _)) (by simp [Value.oneCell']) (by omega) (by unfold maxLen; omega) (by omega) (by simp; omega) _ rfl ?_; intro g cg w7 hown hgrow hat hlt)
          rw [EK.out] at hown
          have HO7 := Lib.hid hown
          have B7 : Below w.heap.size w w7 := Below.grown (by (repeat' (first | (with_reducible exact Below.refl _ _) | (with_reducible assumption) | (with_reducible refine Below.drew ?_) | (with_reducible refine below_drewN ?_ _) | (with_reducible refine Below.setCell ?_ ?_ _) | (with_reducible refine Below.alloc ?_ ?_ _) | go_size | omega))) hgrow (by simp; omega) (fun j e => by have := (HOW6.out.lt _ e).1; omega)
          have RB7 : Box w7 w.heap.size #[.int .i64 b0, .int .i64 b1, .int .i64 b2] 23 := (hgrow.block _ (RB6.out.alloc _).lt (fun e => by have := (HOW6.out.lt _ e.symm).1; omega)).trans (RB6.out.alloc _)
          clear hown hgrow hat EK o0 o1 o2 o3 o4 o5 lx
          go_wp2_with fail
          go_roundw
          case rel => exact ⟨k + 1, by omega, by simp, by rw [mvE_go hkl (by rw [HBY.out])]; exact HD.out, HO7.out, RB7, RB7.lt, B7⟩
          case measure => simp [intOf]; omega
        · go_wp2_with fail
          go_ret2
          exact ⟨.inr ⟨by rw [← HD.out, mvE_bad hkl (by rw [HBY.out])], rfl⟩, by (repeat' (first | (with_reducible exact Below.refl _ _) | (with_reducible assumption) | (with_reducible refine Below.drew ?_) | (with_reducible refine below_drewN ?_ _) | (with_reducible refine Below.setCell ?_ ?_ _) | (with_reducible refine Below.alloc ?_ ?_ _) | go_size | omega))⟩
      · have hby := (show mvBad b0 b1 b2 l[k] = true by rw [HV.out]; unfold mvBad; rw [hb1, Bool.true_or])
        have HBY := Lib.hid hby; clear hby
        have hfar : inR b0 (-2000000) 2000000 = false ∨ (inR b0 (-2000000) 2000000 = true ∧ inR b1 (-2000000) 2000000 = false) ∨ (inR b0 (-2000000) 2000000 = true ∧ inR b1 (-2000000) 2000000 = true ∧ inR b2 (-2000000) 2000000 = false) := by
          have e := szB_bey 2000000 b0 b1 b2
          rw [hb1] at e
          unfold szB at e
          cases h0 : inR b0 (-2000000) 2000000 <;> cases h1 : inR b1 (-2000000) 2000000 <;> cases h2 : inR b2 (-2000000) 2000000 <;> simp [h0, h1, h2] at e ⊢
        clear hb1
        rcases hfar with h0 | ⟨h0, h1⟩ | ⟨h0, h1, h2⟩
        · go_wp2_with fail
          refine wp_loop_rounds 4 ?_
          iterate 1 (rw [rounds_succ]; go_wp2_with (go_at_call 32; refine (Within_any _ _ _ _).mono ?_; rintro e w' ⟨rfl, rfl⟩))
          go_ret2
          exact ⟨.inr ⟨by rw [← HD.out, mvE_bad hkl HBY.out], rfl⟩, by (repeat' (first | (with_reducible exact Below.refl _ _) | (with_reducible assumption) | (with_reducible refine Below.drew ?_) | (with_reducible refine below_drewN ?_ _) | (with_reducible refine Below.setCell ?_ ?_ _) | (with_reducible refine Below.alloc ?_ ?_ _) | go_size | omega))⟩
        · go_wp2_with fail
          refine wp_loop_rounds 4 ?_
          iterate 2 (rw [rounds_succ]; go_wp2_with (go_at_call 32; refine (Within_any _ _ _ _).mono ?_; rintro e w' ⟨rfl, rfl⟩))
          go_ret2
          exact ⟨.inr ⟨by rw [← HD.out, mvE_bad hkl HBY.out], rfl⟩, by (repeat' (first | (with_reducible exact Below.refl _ _) | (with_reducible assumption) | (with_reducible refine Below.drew ?_) | (with_reducible refine below_drewN ?_ _) | (with_reducible refine Below.setCell ?_ ?_ _) | (with_reducible refine Below.alloc ?_ ?_ _) | go_size | omega))⟩
        · go_wp2_with fail
          refine wp_loop_rounds 4 ?_
          iterate 3 (rw [rounds_succ]; go_wp2_with (go_at_call 32; refine (Within_any _ _ _ _).mono ?_; rintro e w' ⟨rfl, rfl⟩))
          go_ret2
          exact ⟨.inr ⟨by rw [← HD.out, mvE_bad hkl HBY.out], rfl⟩, by (repeat' (first | (with_reducible exact Below.refl _ _) | (with_reducible assumption) | (with_reducible refine Below.drew ?_) | (with_reducible refine below_drewN ?_ _) | (with_reducible refine Below.setCell ?_ ?_ _) | (with_reducible refine Below.alloc ?_ ?_ _) | go_size | omega))⟩
    · obtain rfl : k = l.length := by omega
      go_wp2_with fail
      go_ret2
      exact ⟨.inl ⟨by rw [← HD.out, List.drop_length]; rfl, _, rfl, by have h := HOW.out; rw [List.take_length] at h; exact owns_base h (by omega)⟩, hB⟩
end Go.Proofs.Ytahfliboanphkaa
