/-
  Forces moved: slices.Clone, plate.Move, the reference's Move, same.
-/
import Derived.Test.YtahfliboanphkaaMvp
import Derived.Test.YtahfliboanphkaaFap
import Derived.Test.YtahfliboanphkaaCpo
import Derived.Lib.SliceRun
import Derived.Outline
namespace Go.Proofs.Ytahfliboanphkaa
open Go.RowKit
set_option maxRecDepth 100000 in
set_option maxHeartbeats 1600000 in
theorem clone_any (l : List Pf) (a : Option Addr) (cap : Nat) (w : World) (hl : l.length ≤ 400) (hp : PlAt w a l) :
    Calls Try.prog 52 #[.slice a l.length cap] w fun e w' => (∃ v : Value, e = .returned v ∧ w'.ownsRow w.heap.size 27 6 v l.length (plc l)) ∧ Below w.heap.size w w' := by
  by_cases hnil : a = none
  · subst hnil
    have hl0 : l = [] := by
      rcases hp with h | ⟨b, o, h, _⟩
      · exact h
      · cases h
    subst hl0
    have EN := fun u : World => Lib.run_eql_slice_nil (P := Try.prog) u 22 27 none 0 cap 0 0 Try.underlying22
    simp only [Option.isNone_none] at EN
    go_enter Try.func52, Try.ntmps52
    go_wp2_with fail
    go_ret
    exact ⟨⟨_, rfl, World.ownsRow_nil _ _ _ _⟩, by (repeat' (first | (with_reducible exact Below.refl _ _) | (with_reducible assumption) | (with_reducible refine Below.drew ?_) | (with_reducible refine below_drewN ?_ _) | (with_reducible refine Below.setCell ?_ ?_ _) | (with_reducible refine Below.alloc ?_ ?_ _) | go_size | omega))⟩
  obtain ⟨x0, rfl⟩ : ∃ x, a = some x := by
    cases a with
    | none => exact absurd rfl hnil
    | some x => exact ⟨x, rfl⟩
  have EN := fun u : World => Lib.run_eql_slice_nil (P := Try.prog) u 22 27 (some x0) l.length cap 0 0 Try.underlying22
  simp only [Option.isNone_some] at EN
  clear hnil
  obtain ⟨i0, hi0, hz0, hz1, hz2⟩ := info_parts infoP
  by_cases hl0 : l = []
  · subst hl0
    simp only [List.length_nil] at EN
    have hsrc : ∀ u : World, Src Try.prog i0.size 22 (.slice (some x0) 0 cap) 0 [] u := fun u => Src.ofSlice u Try.underlying22 x0 0 cap [] (by simp) (by simp) (by simp)
    have AP : ∀ (u : World) (ty : TypeId) (B : Nat), (Builtin.append_ #[22, 22] ty #[.slice (some ⟨B, 0, none⟩) 0 0, .slice (some x0) 0 cap]).run Try.prog u = .ok (.slice (some ⟨B, 0, none⟩) 0 0) u := fun u ty B =>
      run_append_nothing u 22 22 ty 27 i0 Try.underlying22 hi0 (some ⟨B, 0, none⟩) 0 0 (by omega) _ (hsrc u)
    go_enter Try.func52, Try.ntmps52
    go_wp2_with (at_builtin; refine wpList_nothing rfl _ _ _ _ rfl _ _ rfl rfl (AP _ _ _) ?_)
    go_ret
    exact ⟨⟨_, rfl, ownsRow_empty _ _ _ (Nat.le_refl _)⟩, by (repeat' (first | (with_reducible exact Below.refl _ _) | (with_reducible assumption) | (with_reducible refine Below.drew ?_) | (with_reducible refine below_drewN ?_ _) | (with_reducible refine Below.setCell ?_ ?_ _) | (with_reducible refine Below.alloc ?_ ?_ _) | go_size | omega))⟩
  · have hsome : ∃ b o, some x0 = some (⟨b, o, none⟩ : Addr) ∧ b < w.heap.size ∧ ∀ j (h : j < l.length), w.cell? ⟨b, o + j * 6, none⟩ = some (.int .i64 (l[j]).x) ∧ w.cell? ⟨b, o + j * 6 + 1, none⟩ = some (.int .i64 (l[j]).y) ∧ w.cell? ⟨b, o + j * 6 + 2, none⟩ = some (.int .i64 (l[j]).z) ∧ w.cell? ⟨b, o + j * 6 + 3, none⟩ = some (.int .i64 (l[j]).p) ∧ w.cell? ⟨b, o + j * 6 + 4, none⟩ = some (.int .i64 (l[j]).q) ∧ w.cell? ⟨b, o + j * 6 + 5, none⟩ = some (.int .i64 (l[j]).r) := by
      rcases hp with h | h
      · exact absurd h hl0
      · exact h
    obtain ⟨b, o, hx0, hb, hc⟩ := hsome
    cases hx0
    have hn : 0 < l.length := List.length_pos_iff.2 hl0
    have c1 : ∀ j u, (plc l)[j]? = some u → (w.alloc (.cells #[] 27)).cell? ((⟨b, o, none⟩ : Addr).add j) = some u := fun j u hu => by
      have h := plc_cells hc j u hu
      rw [addr_add] at h ⊢
      exact (World.cell?_alloc_past _ _ _ hb).trans h
    have HC := Lib.hid c1
    clear hc hp hl0 c1
    go_enter Try.func52, Try.ntmps52
    go_wp2_with (at_builtin; refine wpList_append_grows _ rfl _ _ 22 rfl 27 i0 _ 6 48 Try.underlying22 hi0 hz0 hz1 hz2 rfl (by omega) (some ⟨w.heap.size, 0, none⟩) 0 0 [] rfl (by intro e; cases e) rfl (by intro _ _ j u hu; simp at hu) ⟨b, o, none⟩ l.length cap (plc l) rfl (plc_len l) HC.out (plc_one l) (by omega) (by unfold maxLen; omega) (by omega) ?_; intro v' w' hown hgrow)
    obtain ⟨g, c', rfl, hg0, hg1⟩ := hown.form (by omega)
    have B1 : Below w.heap.size w w' := Below.grown (by (repeat' (first | (with_reducible exact Below.refl _ _) | (with_reducible assumption) | (with_reducible refine Below.drew ?_) | (with_reducible refine below_drewN ?_ _) | (with_reducible refine Below.setCell ?_ ?_ _) | (with_reducible refine Below.alloc ?_ ?_ _) | go_size | omega))) hgrow (by simp) (fun k e => by cases e)
    go_wp2_with fail
    go_ret
    exact ⟨⟨_, rfl, owns_base (by simpa using hown) (by simp)⟩, B1⟩
def mv (b0 b1 b2 : Int) (p : Pf) : Pf := ⟨p.x + b0, p.y + b1, p.z + b2, p.p, p.q, p.r⟩
def mvBad (b0 b1 b2 : Int) (p : Pf) : Bool := beyV 2000000 b0 b1 b2 || beyV 1000000 (p.x + b0) (p.y + b1) (p.z + b2)
def mvE (b0 b1 b2 : Int) : List Pf → Int
  | [] => 0
  | p :: t => if mvBad b0 b1 b2 p then 2 else mvE b0 b1 b2 t
theorem mvE_go {b0 b1 b2 : Int} {l : List Pf} {k : Nat} (hk : k < l.length) (h : mvBad b0 b1 b2 l[k] = false) : mvE b0 b1 b2 (l.drop (k + 1)) = mvE b0 b1 b2 (l.drop k) := by
  rw [List.drop_eq_getElem_cons hk]
  show _ = (if mvBad b0 b1 b2 l[k] then 2 else mvE b0 b1 b2 (l.drop (k + 1)))
  rw [h]; rfl
theorem mvE_bad {b0 b1 b2 : Int} {l : List Pf} {k : Nat} (hk : k < l.length) (h : mvBad b0 b1 b2 l[k] = true) : mvE b0 b1 b2 (l.drop k) = 2 := by
  rw [List.drop_eq_getElem_cons hk]
  show (if mvBad b0 b1 b2 l[k] then 2 else mvE b0 b1 b2 (l.drop (k + 1))) = 2
  rw [h]; rfl
def mvh (b0 b1 b2 : Int) (l : List Pf) (k : Nat) : List Pf := (l.take k).map (mv b0 b1 b2) ++ l.drop k
theorem mvh_len (b0 b1 b2 : Int) (l : List Pf) (k : Nat) : (mvh b0 b1 b2 l k).length = l.length := by
  unfold mvh; simp; omega
theorem mvh_zero (b0 b1 b2 : Int) (l : List Pf) : mvh b0 b1 b2 l 0 = l := by unfold mvh; simp
theorem mvh_all (b0 b1 b2 : Int) (l : List Pf) : mvh b0 b1 b2 l l.length = l.map (mv b0 b1 b2) := by unfold mvh; simp
theorem mvh_get (b0 b1 b2 : Int) (l : List Pf) (k : Nat) (hk : k < l.length) : (mvh b0 b1 b2 l k)[k]'(by rw [mvh_len]; exact hk) = l[k] := by
  unfold mvh
  rw [List.getElem_append_right (by simp; omega)]
  simp [Nat.min_eq_left (Nat.le_of_lt hk)]
theorem mvh_set (b0 b1 b2 : Int) (l : List Pf) (k : Nat) (hk : k < l.length) : (mvh b0 b1 b2 l k).set k (mv b0 b1 b2 l[k]) = mvh b0 b1 b2 l (k + 1) := by
  unfold mvh
  rw [List.set_append_right _ _ (by simp; omega)]
  have e : k - ((l.take k).map (mv b0 b1 b2)).length = 0 := by simp; omega
  rw [e, List.drop_eq_getElem_cons hk, List.set_cons_zero, List.take_succ_eq_append_getElem hk]
  simp only [List.map_append, List.map_cons, List.map_nil, List.append_assoc, List.cons_append, List.nil_append]
theorem plc_set (p : Pf) : ∀ (L : List Pf) (k : Nat) (hk : k < L.length), (((plc L).set (k * 6) (.int .i64 p.x)).set (k * 6 + 1) (.int .i64 p.y)).set (k * 6 + 2) (.int .i64 p.z) = plc (L.set k ⟨p.x, p.y, p.z, (L[k]).p, (L[k]).q, (L[k]).r⟩)
  | [], k, hk => by simp at hk
  | q :: t, 0, _ => by simp [plc]
  | q :: t, k + 1, hk => by
    have ih := plc_set p t k (by simpa using hk)
    unfold plc at *
    rw [show (k + 1) * 6 = k * 6 + 1 + 1 + 1 + 1 + 1 + 1 by omega]
    simp only [List.flatMap_cons, List.set_cons_succ, List.getElem_cons_succ, List.cons_append, List.nil_append]
    rw [ih]
def MvPost (b0 b1 b2 : Int) (l : List Pf) (w : World) (e : Ending) (w' : World) : Prop :=
  ((mvE b0 b1 b2 l = 0 ∧ ∃ v : Value, e = .returned (.tuple #[v, .int .i64 0]) ∧ w'.ownsRow w.heap.size 27 6 v l.length (plc (l.map (mv b0 b1 b2)))) ∨ (mvE b0 b1 b2 l = 2 ∧ e = .returned (.tuple #[.slice none 0 0, .int .i64 2]))) ∧ Below w.heap.size w w'
def MvRel (b0 b1 b2 : Int) (l : List Pf) (w : World) (cv : Value) (v : Value) (wr : World) : Prop :=
  ∃ k : Nat, k ≤ l.length ∧ v = .int .i64 (k : Int) ∧ mvE b0 b1 b2 (l.drop k) = mvE b0 b1 b2 l ∧ wr.ownsRow (w.heap.size + 1) 27 6 cv l.length (plc (mvh b0 b1 b2 l k)) ∧ Box wr w.heap.size #[.int .i64 b0, .int .i64 b1, .int .i64 b2] 23 ∧ w.heap.size < wr.heap.size ∧ Below w.heap.size w wr
set_option maxRecDepth 100000 in
set_option maxHeartbeats 3200000 in
theorem moveOk_any (l : List Pf) (a : Option Addr) (cap : Nat) (b0 b1 b2 : Int) (w : World) (hl : l.length ≤ 400) (hc : chkP l = 0) (hp : PlAt w a l) :
    Calls Try.prog 19 #[.slice a l.length cap, vec b0 b1 b2] w (MvPost b0 b1 b2 l w) := by
  have ho := okL_of hc
  have CK := Lib.hid (fun (u : World) (h : PlAt u a l) => chkP_any l a cap u (by omega) h)
  rw [hc] at CK
  have CC := Lib.hid (fun (u : World) (h : PlAt u a l) => clone_any l a cap u hl h)
  have HP := Lib.hid hp; have HO := Lib.hid ho
  clear hp hc ho
  go_enter Try.func19, Try.ntmps19
  go_wp2_with fail
  refine (CK.out _ (HP.out.keep (by (repeat' (first | (with_reducible exact Below.refl _ _) | (with_reducible assumption) | (with_reducible refine Below.drew ?_) | (with_reducible refine below_drewN ?_ _) | (with_reducible refine Below.setCell ?_ ?_ _) | (with_reducible refine Below.alloc ?_ ?_ _) | go_size | omega))))).mono ?_
  rintro e w1 ⟨rfl, h⟩
  have B1 : Below w.heap.size w w1 := below_via (by (repeat' (first | (with_reducible exact Below.refl _ _) | (with_reducible assumption) | (with_reducible refine Below.drew ?_) | (with_reducible refine below_drewN ?_ _) | (with_reducible refine Below.setCell ?_ ?_ _) | (with_reducible refine Below.alloc ?_ ?_ _) | go_size | omega))) h
  have R1 := Lib.hid ((Box.new w #[.int .i64 b0, .int .i64 b1, .int .i64 b2] 23 (n := w.heap.size) rfl).keep h)
  have z1 := h.size
  simp at z1
  clear h CK
  go_wp2_with fail
  refine (CC.out _ (HP.out.keep B1)).mono ?_
  rintro e w2 ⟨⟨cv, rfl, ho2⟩, h⟩
  have B2 : Below w.heap.size w w2 := below_via B1 h
  have R2 := Lib.hid (R1.out.keep h)
  have O2 := Lib.hid (owns_base ho2 (show w.heap.size + 1 ≤ w1.heap.size by omega))
  have z2 := h.size
  clear h CC ho2 R1
  go_wp2_with fail
  go_loopw [21] (MvRel b0 b1 b2 l w cv) (fun i _ => l.length - (intOf i).toNat)
  case atStart => exact ⟨0, by omega, rfl, by rw [List.drop_zero], by rw [mvh_zero]; exact O2.out, R2.out, by omega, B2⟩
  case round =>
    obtain ⟨k, hk, rfl, hd, how, hbx, hsz, hB⟩ := hrel
    have HD := Lib.hid hd; have HOW := Lib.hid how; have RB := Lib.hid hbx
    clear hd how hbx
    by_cases hkl : k < l.length
    · rcases HP.out.keep hB with h0 | ⟨b, o, rfl, hbl, hc⟩
      · rw [h0] at hkl; simp at hkl
      obtain ⟨c0, c1, c2, c3, c4, c5⟩ := hc k hkl
      clear hc
      obtain ⟨g, cp, rfl, hg⟩ : ∃ g cp, cv = .slice (some ⟨g, 0, none⟩) l.length cp ∧ w.heap.size + 1 ≤ g := by
        rcases HOW.out.2 with ⟨-, h0⟩ | ⟨g, cp, cur, h1, h2, -⟩
        · omega
        · exact ⟨g, cp, h1, h2⟩
      rcases hlk : l[k] with ⟨x, y, z, p, q, r⟩
      rw [hlk] at c0 c1 c2 c3 c4 c5
      have HV := Lib.hid hlk
      have hpl := (badP_no (HO.out.2 _ (List.getElem_mem hkl))).1
      rw [hlk] at hpl
      clear hlk
      dsimp only at c0 c1 c2 c3 c4 c5 hpl
      have HPL := Lib.hid hpl; clear hpl
      obtain ⟨m0, m1, m2, -⟩ := RB.out.three
      cases hb1 : beyV 2000000 b0 b1 b2
      · have CM := Lib.hid (fun u => mvp_near x y z b0 b1 b2 _ u HPL.out hb1 rfl)
        cases hb2 : beyV 1000000 (x + b0) (y + b1) (z + b2)
        all_goals
          have hby := (show mvBad b0 b1 b2 l[k] = (beyV 2000000 b0 b1 b2 || beyV 1000000 (x + b0) (y + b1) (z + b2)) by rw [HV.out]; rfl)
          rw [hb1, hb2] at hby
          have HBY := Lib.hid hby
          rw [hb2] at CM; simp only [Bool.false_eq_true, if_true, if_false] at CM
          clear hb1 hb2 hby
          generalize hx : x + b0 = X at *
          generalize hy : y + b1 = Y at *
          generalize hz : z + b2 = Z at *
          have HX := Lib.hid (And.intro hx (And.intro hy hz)); clear hx hy hz
          go_wp2_with fail
          refine (CM.out _).mono ?_
          rintro e w3 ⟨rfl, h⟩
          have B3 : Below w.heap.size w w3 := below_via (by (repeat' (first | (with_reducible exact Below.refl _ _) | (with_reducible assumption) | (with_reducible refine Below.drew ?_) | (with_reducible refine below_drewN ?_ _) | (with_reducible refine Below.setCell ?_ ?_ _) | (with_reducible refine Below.alloc ?_ ?_ _) | go_size | omega))) h
          have Q3 : Below wr.heap.size wr w3 := below_via (by (repeat' (first | (with_reducible exact Below.refl _ _) | (with_reducible assumption) | (with_reducible refine Below.drew ?_) | (with_reducible refine below_drewN ?_ _) | (with_reducible refine Below.setCell ?_ ?_ _) | (with_reducible refine Below.alloc ?_ ?_ _) | go_size | omega))) h
          have RB3 := Lib.hid (RB.out.keep Q3)
          have HOW3 := Lib.hid (owns_keep HOW.out Q3)
          have z3 := Q3.size
          clear h CM c0 c1 c2 c3 c4 c5 m0 m1 m2 Q3
        · have hkL : k < (mvh b0 b1 b2 l k).length := by rw [mvh_len]; exact hkl
          obtain ⟨g0, g1, g2, -⟩ := plc_get (mvh b0 b1 b2 l k) k hkL
          have s0 := (HOW3.out.cellAt (k * 6) (by omega)).trans g0
          have s1 := (HOW3.out.cellAt (k * 6 + 1) (by omega)).trans g1
          have s2 := (HOW3.out.cellAt (k * 6 + 2) (by omega)).trans g2
          have f0 := HOW3.out.frozenAt (k * 6); have f1 := HOW3.out.frozenAt (k * 6 + 1); have f2 := HOW3.out.frozenAt (k * 6 + 2)
          have lg := (HOW3.out.lt g rfl).2
          have OB := Lib.hid ((((HOW3.out.stored (k * 6) (.int .i64 X)).1.stored (k * 6 + 1) (.int .i64 Y)).1.stored (k * 6 + 2) (.int .i64 Z)).1.alloc (.cells #[.int .i64 X, .int .i64 Y, .int .i64 Z] 91))
          have E3 := plc_set (mv b0 b1 b2 l[k]) (mvh b0 b1 b2 l k) k hkL
          have hml : (⟨(mv b0 b1 b2 l[k]).x, (mv b0 b1 b2 l[k]).y, (mv b0 b1 b2 l[k]).z, ((mvh b0 b1 b2 l k)[k]).p, ((mvh b0 b1 b2 l k)[k]).q, ((mvh b0 b1 b2 l k)[k]).r⟩ : Pf) = mv b0 b1 b2 l[k] := by rw [mvh_get b0 b1 b2 l k hkl]; rfl
          rw [hml, mvh_set b0 b1 b2 l k hkl, HV.out] at E3
          rw [show (mv b0 b1 b2 ⟨x, y, z, p, q, r⟩).x = X from HX.out.1, show (mv b0 b1 b2 ⟨x, y, z, p, q, r⟩).y = Y from HX.out.2.1, show (mv b0 b1 b2 ⟨x, y, z, p, q, r⟩).z = Z from HX.out.2.2] at E3
          have OC := Lib.hid (by have h := OB.out; rw [E3] at h; exact h)
          clear g0 g1 g2 E3 hml OB
          go_wp2_with fail
          have BQ : Below w.heap.size w ((((w3.setCell ⟨g, k * 6, none⟩ (.int .i64 X)).setCell ⟨g, k * 6 + 1, none⟩ (.int .i64 Y)).setCell ⟨g, k * 6 + 2, none⟩ (.int .i64 Z)).alloc (.cells #[.int .i64 X, .int .i64 Y, .int .i64 Z] 91)) := by (repeat' (first | (with_reducible exact Below.refl _ _) | (with_reducible assumption) | (with_reducible refine Below.drew ?_) | (with_reducible refine below_drewN ?_ _) | (with_reducible refine Below.setCell ?_ ?_ _) | (with_reducible refine Below.alloc ?_ ?_ _) | go_size | omega))
          have RQ : Box ((((w3.setCell ⟨g, k * 6, none⟩ (.int .i64 X)).setCell ⟨g, k * 6 + 1, none⟩ (.int .i64 Y)).setCell ⟨g, k * 6 + 2, none⟩ (.int .i64 Z)).alloc (.cells #[.int .i64 X, .int .i64 Y, .int .i64 Z] 91)) w.heap.size #[.int .i64 b0, .int .i64 b1, .int .i64 b2] 23 := (((RB3.out.other _ _ (by simp; omega)).other _ _ (by simp; omega)).other _ _ (by simp; omega)).alloc _
          generalize ((((w3.setCell ⟨g, k * 6, none⟩ (.int .i64 X)).setCell ⟨g, k * 6 + 1, none⟩ (.int .i64 Y)).setCell ⟨g, k * 6 + 2, none⟩ (.int .i64 Z)).alloc (.cells #[.int .i64 X, .int .i64 Y, .int .i64 Z] 91)) = w4 at *
          go_roundw
          case rel => exact ⟨k + 1, by omega, by simp, by rw [mvE_go hkl (by rw [HBY.out]; rfl)]; exact HD.out, OC.out, RQ, RQ.lt, BQ⟩
          case measure => simp [intOf]; omega
        · go_wp2_with fail
          go_ret2
          exact ⟨.inr ⟨by rw [← HD.out, mvE_bad hkl (by rw [HBY.out]; rfl)], rfl⟩, by (repeat' (first | (with_reducible exact Below.refl _ _) | (with_reducible assumption) | (with_reducible refine Below.drew ?_) | (with_reducible refine below_drewN ?_ _) | (with_reducible refine Below.setCell ?_ ?_ _) | (with_reducible refine Below.alloc ?_ ?_ _) | go_size | omega))⟩
      · have CM := Lib.hid (fun u => mvp_far x y z b0 b1 b2 u hb1)
        have HBY := Lib.hid (show mvBad b0 b1 b2 l[k] = true by rw [HV.out]; unfold mvBad; rw [hb1, Bool.true_or])
        clear hb1
        go_wp2_with fail
        refine (CM.out _).mono ?_
        rintro e w3 ⟨rfl, h⟩
        have B3 : Below w.heap.size w w3 := below_via (by (repeat' (first | (with_reducible exact Below.refl _ _) | (with_reducible assumption) | (with_reducible refine Below.drew ?_) | (with_reducible refine below_drewN ?_ _) | (with_reducible refine Below.setCell ?_ ?_ _) | (with_reducible refine Below.alloc ?_ ?_ _) | go_size | omega))) h
        have zB := B3.size
        clear h CM c0 c1 c2 c3 c4 c5 m0 m1 m2
        go_wp2_with fail
        go_ret2
        exact ⟨.inr ⟨by rw [← HD.out, mvE_bad hkl HBY.out], rfl⟩, by (repeat' (first | (with_reducible exact Below.refl _ _) | (with_reducible assumption) | (with_reducible refine Below.drew ?_) | (with_reducible refine below_drewN ?_ _) | (with_reducible refine Below.setCell ?_ ?_ _) | (with_reducible refine Below.alloc ?_ ?_ _) | go_size | omega))⟩
    · obtain rfl : k = l.length := by omega
      go_wp2_with fail
      go_ret2
      exact ⟨.inl ⟨by rw [← HD.out, List.drop_length]; rfl, _, rfl, by rw [← mvh_all]; exact owns_base HOW.out (by omega)⟩, hB⟩
end Go.Proofs.Ytahfliboanphkaa
