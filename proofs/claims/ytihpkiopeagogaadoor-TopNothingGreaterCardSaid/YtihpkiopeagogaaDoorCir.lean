/-
  The walk of CheckCircle for systems that are right.
-/
import Derived.Test.YtihpkiopeagogaaDoorSys
import Derived.Test.YtihpkiopeagogaaDoorBel
namespace Go.Proofs.YtihpkiopeagogaaDoor
open Go.RowKit
/-- the numbers read so at a slice's address -/
def IntsAt (w : World) (a : Option Addr) (c : List Int) : Prop :=
  c = [] ∨ ∃ b o, a = some ⟨b, o, none⟩ ∧ b < w.heap.size ∧ ∀ j (h : j < c.length), w.cell? ⟨b, o + j, none⟩ = some (.int .i64 c[j])
theorem IntsAt.keep {w w' : World} {a : Option Addr} {c : List Int} (h : IntsAt w a c) (hb : Below w.heap.size w w') : IntsAt w' a c := by
  rcases h with h | ⟨b, o, h1, h2, h3⟩
  · exact .inl h
  · refine .inr ⟨b, o, h1, Nat.lt_of_lt_of_le h2 hb.size, fun j hj => ?_⟩
    rw [(bcell hb).1 b _ h2]; exact h3 j hj
def bdAt (l : List Bd) (i : Int) : Bd := l.getD i.toNat ⟨0, 0, 0⟩
def cirL (l : List Bd) : List Int → Int → Int → Int × Int
  | [], _, sum => if 0 ≤ sum then (0, 22) else (sum, 0)
  | i :: t, at_, sum => if (bdAt l i).f ≠ at_ then (0, 25) else cirL l t (bdAt l i).t (sum + (bdAt l i).m)
def cirB (l : List Bd) (c : List Int) : Prop := ∀ i ∈ c, 0 ≤ i ∧ i < l.length
def CirRel1 (l : List Bd) (c : List Int) (w : World) (v : Value) (wr : World) : Prop :=
  ∃ k : Nat, k ≤ c.length ∧ v = .int .i64 (k : Int) ∧ (∀ j (h : j < c.length), j < k → 0 ≤ c[j] ∧ c[j] < l.length) ∧ wr = w
def CirRel2 (l : List Bd) (c : List Int) (at0 : Int) (w : World) (v11 v12 v56 : Value) (wr : World) : Prop :=
  ∃ (k : Nat) (at_ sum : Int), k ≤ c.length ∧ v56 = .int .i64 (k : Int) ∧ v12 = .int .i64 at_ ∧ v11 = .int .i64 sum ∧ cirL l (c.drop k) at_ sum = cirL l c at0 0 ∧ -(k * 1000000000 : Int) ≤ sum ∧ sum ≤ k * 1000000000 ∧ wr = w
theorem bdAt_get {l : List Bd} {i : Int} (h0 : 0 ≤ i) (h1 : i < l.length) : bdAt l i = l[i.toNat]'(by omega) := by
  unfold bdAt; rw [List.getD_eq_getElem?_getD, List.getElem?_eq_getElem (by omega)]; rfl
theorem bdsE_all' {n : Int} : ∀ {l : List Bd}, bdsE n l = 0 → ∀ b ∈ l, bdE n b = 0
  | [], _, b, hb => by cases hb
  | c :: t, h, b, hb => by
    have h' : (if bdE n c ≠ 0 then bdE n c else bdsE n t) = 0 := h
    by_cases hc : bdE n c = 0
    · rw [if_neg (by omega)] at h'
      rcases List.mem_cons.1 hb with rfl | hb
      · exact hc
      · exact bdsE_all' h' b hb
    · rw [if_pos hc] at h'; omega
theorem bdE_ok' {n : Int} {b : Bd} (h : bdE n b = 0) : (0 ≤ b.f ∧ b.f ≤ n - 1) ∧ (0 ≤ b.t ∧ b.t ≤ n - 1) ∧ (-1000000000 ≤ b.m ∧ b.m ≤ 1000000000) := by
  unfold bdE at h
  split at h
  · rename_i h1
    split at h
    · rename_i h2
      unfold inR at h1; unfold inB at h2; simp at h1 h2; omega
    · omega
  · omega
def cirA (l : List Bd) (c : List Int) : Bool := c.all fun i => decide (0 ≤ i) && decide (i < l.length)
theorem cirA_of {l : List Bd} {c : List Int} (h : cirB l c) : cirA l c = true := by
  unfold cirA; rw [List.all_eq_true]; intro i hi; have := h i hi; simp; omega
theorem cirA_no {l : List Bd} {c : List Int} {k : Nat} (hk : k < c.length) {v : Int} (hv : c[k] = v) (h : v < 0 ∨ (l.length : Int) ≤ v) : cirA l c = false := by
  cases ha : cirA l c
  · rfl
  · exfalso
    unfold cirA at ha; rw [List.all_eq_true] at ha
    have := ha _ (List.getElem_mem hk)
    rw [hv] at this
    simp at this; omega
/-- what is answered for a circle in a system that is right -/
def cirF (l : List Bd) (c : List Int) : Int × Int :=
  if c.length < 1 ∨ 60 < c.length then (0, 10) else if cirA l c = false then (0, 6) else cirL l c (bdAt l (c.getD (c.length - 1) 0)).t 0
def CirPost (l : List Bd) (c : List Int) (w : World) (e : Ending) (w' : World) : Prop :=
  e = .returned (.tuple #[.int .i64 (cirF l c).1, .int .i64 (cirF l c).2]) ∧ Below w.heap.size w w'
set_option maxRecDepth 100000 in
set_option maxHeartbeats 1600000 in
theorem chkCir_any (n : Int) (a a2 : Option Addr) (ca c2 : Nat) (l : List Bd) (c : List Int) (w : World) (hb : BdsAt w a l) (hc : IntsAt w a2 c) (hs : sysE n l = 0) (hcl : c.length ≤ 1099511627776) :
    Calls Tryd.prog 8 #[.int .i64 n, .slice a l.length ca, .slice a2 c.length c2] w (CirPost l c w) := by
  have hN : (1 ≤ n ∧ n ≤ 60) ∧ l.length ≤ 200 ∧ bdsE n l = 0 := by
    unfold sysE at hs
    split at hs
    · omega
    · split at hs
      · omega
      · exact ⟨by omega, by omega, hs⟩
  obtain ⟨⟨n1, n60⟩, hl, hbd⟩ := hN
  have CK := Lib.hid (chkSys_any n a ca l w hb (by omega) (by omega) (by omega))
  rw [hs] at CK
  have HB := Lib.hid hb; have HC := Lib.hid hc; have BD := Lib.hid hbd
  clear hb hc hs hbd
  go_enter Tryd.func8, Tryd.ntmps8
  go_wp2_with fail
  refine CK.out.mono ?_
  rintro e w1 ⟨rfl, h1⟩
  have B1 : Below w.heap.size w w1 := h1
  have HB1 := Lib.hid (HB.out.keep h1); have HC1 := Lib.hid (HC.out.keep h1)
  clear h1 CK HB HC
  by_cases k0 : c.length < 1
  · go_wp2_with fail
    go_ret2
    exact ⟨by rw [show cirF l c = (0, 10) by unfold cirF; rw [if_pos (by omega)]]; rfl, by assumption⟩
  by_cases k1 : 60 < c.length
  · go_wp2_with fail
    go_ret2
    exact ⟨by rw [show cirF l c = (0, 10) by unfold cirF; rw [if_pos (by omega)]]; rfl, by assumption⟩
  rcases HC1.out with he | ⟨b2, o2, rfl, hb2, hcc⟩
  · rw [he] at k0; simp at k0
  have HCC := Lib.hid hcc; clear hcc
  go_wp2_with fail
  go_loopw [31] (CirRel1 l c w1) (fun i _ => c.length - (intOf i).toNat)
  case atStart => exact ⟨0, by omega, rfl, fun j _ h => by omega, rfl⟩
  case round =>
    obtain ⟨k, hk, rfl, hg, rfl⟩ := hrel
    have HG := Lib.hid hg; clear hg
    by_cases hkl : k < c.length
    · have c0 := HCC.out k hkl
      have HK := Lib.hid (show ∃ v, c[k] = v from ⟨_, rfl⟩)
      obtain ⟨v, hv⟩ := HK.out
      rw [hv] at c0
      have HV := Lib.hid hv; clear hv HK
      by_cases v0 : v < 0
      · go_wp2_with fail
        go_ret2
        exact ⟨by rw [show cirF l c = (0, 6) by unfold cirF; rw [if_neg (by omega), if_pos (cirA_no hkl HV.out (by omega))]]; rfl, by assumption⟩
      by_cases v1 : (l.length : Int) ≤ v
      · go_wp2_with fail
        go_ret2
        exact ⟨by rw [show cirF l c = (0, 6) by unfold cirF; rw [if_neg (by omega), if_pos (cirA_no hkl HV.out (by omega))]]; rfl, by assumption⟩
      go_wp2_with fail
      go_roundw
      case rel =>
        refine ⟨k + 1, by omega, by simp, fun j hj hjk => ?_, rfl⟩
        by_cases hjk' : j = k
        · subst hjk'; rw [HV.out]; omega
        · exact HG.out j hj (by omega)
      case measure => simp [intOf]; omega
    · have hgood : cirB l c := by
        intro i hi
        obtain ⟨j, hj, rfl⟩ := List.getElem_of_mem hi
        exact HG.out j hj (by omega)
      have HGD := Lib.hid hgood; clear hgood HG
      obtain ⟨L, hL⟩ : ∃ L, c.length = L + 1 := ⟨c.length - 1, by omega⟩
      obtain ⟨vL0, vL1⟩ := HGD.out _ (List.getElem_mem (show L < c.length by omega))
      have cL := HCC.out L (by omega)
      have AT := Lib.hid (show cirF l c = cirL l c (bdAt l (c[L]'(by omega))).t 0 by
        unfold cirF; rw [if_neg (by omega), if_neg (by rw [cirA_of HGD.out]; simp), List.getD_eq_getElem?_getD, show c.length - 1 = L by omega, List.getElem?_eq_getElem (show L < c.length by omega)]; rfl)
      generalize hcL : c[L]'(by omega) = vL at *
      obtain ⟨V, rfl⟩ := Int.eq_ofNat_of_zero_le vL0
      rcases HB1.out with he | ⟨b, o, rfl, hb, hbb⟩
      · rw [he] at vL1; simp at vL1; omega
      have HBB := Lib.hid hbb
      obtain ⟨-, d1, -⟩ := hbb V (by omega)
      have hbv : bdAt l (V : Int) = l[V]'(by omega) := bdAt_get (by omega) vL1
      rw [hbv] at AT
      generalize l[V]'(by omega) = bV at *
      clear hbb hbv
      rw [hL]
      go_wp2_with fail
      clear d1 cL
      go_loopw [11, 12, 56] (CirRel2 l c bV.t wr) (fun _ _ i _ => c.length - (intOf i).toNat)
      case atStart => exact ⟨0, bV.t, 0, by omega, rfl, rfl, rfl, by rw [List.drop_zero], by omega, by omega, rfl⟩
      case round =>
        obtain ⟨k, at_, sum, hk2, rfl, rfl, rfl, hcir, s0, s1, rfl⟩ := hrel
        have HCI := Lib.hid hcir; clear hcir
        by_cases hkl2 : k < c.length
        · have c0 := HCC.out k hkl2
          obtain ⟨i0, i1⟩ := HGD.out _ (List.getElem_mem hkl2)
          have hdrop := List.drop_eq_getElem_cons hkl2
          generalize c[k]'hkl2 = iv at *
          obtain ⟨I, rfl⟩ := Int.eq_ofNat_of_zero_le i0
          obtain ⟨e0, e1, e2⟩ := HBB.out I (by omega)
          have hbi : bdAt l (I : Int) = l[I]'(by omega) := bdAt_get (by omega) i1
          have hci := HCI.out
          rw [hdrop] at hci
          have hci2 : (if (bdAt l (I : Int)).f ≠ at_ then ((0, 25) : Int × Int) else cirL l (c.drop (k + 1)) (bdAt l (I : Int)).t (sum + (bdAt l (I : Int)).m)) = cirL l c bV.t 0 := hci
          rw [hbi] at hci2
          have bdk := (bdE_ok' (bdsE_all' BD.out _ (List.getElem_mem (show I < l.length by omega))))
          generalize l[I]'(by omega) = bI at *
          clear hci hdrop hbi HCI
          by_cases hat : bI.f = at_
          · rw [if_neg (by simpa using hat)] at hci2
            have HCI := Lib.hid hci2; clear hci2
            have ws : IntKind.i64.wrap (sum + bI.m) = sum + bI.m := IntWalk.i64_in _ (by omega)
            have hbn : (bI.f != at_) = false := by simpa using hat
            go_wp2_with fail
            go_roundw
            case rel => exact ⟨k + 1, bI.t, sum + bI.m, by omega, by simp, rfl, rfl, HCI.out, by omega, by omega, rfl⟩
            case measure => simp [intOf]; omega
          · have hbn : (bI.f != at_) = true := by simpa using hat
            go_wp2_with fail
            go_ret2
            rw [if_pos (by simpa using hat)] at hci2
            exact ⟨by rw [AT.out, ← hci2]; rfl, by assumption⟩
        · obtain rfl : k = c.length := by omega
          have hci := HCI.out
          rw [List.drop_length] at hci
          have hci2 : (if 0 ≤ sum then ((0, 22) : Int × Int) else (sum, 0)) = cirL l c bV.t 0 := hci
          by_cases hsum : 0 ≤ sum
          · go_wp2_with fail
            go_ret2
            rw [if_pos hsum] at hci2
            exact ⟨by rw [AT.out, ← hci2]; rfl, by assumption⟩
          · rw [if_neg hsum] at hci2
            have HCI2 := Lib.hid hci2; clear hci hci2
            go_wp2_with fail
            go_ret2
            exact ⟨by rw [AT.out, ← HCI2.out]; rfl, by assumption⟩
end Go.Proofs.YtihpkiopeagogaaDoor
