/-
  Sums of forces.
-/
import Derived.Test.YtahfliboanphkaaFck
import Derived.StillTailTactics
namespace Go.Proofs.Ytahfliboanphkaa
open Go.RowKit
def sA (g : Pf → Int) (l : List Pf) : Nat → Int
  | 0 => 0
  | k + 1 => sA g l k + g (l.getD k ⟨0, 0, 0, 0, 0, 0⟩)
theorem sA_go {g : Pf → Int} {l : List Pf} {k : Nat} (hk : k < l.length) {p : Pf} (h : l[k] = p) : sA g l (k + 1) = sA g l k + g p := by
  rw [show sA g l (k + 1) = sA g l k + g (l.getD k ⟨0, 0, 0, 0, 0, 0⟩) from rfl, List.getD_eq_getElem?_getD, List.getElem?_eq_getElem hk, h]; rfl
theorem sA_bd {g : Pf → Int} {l : List Pf} {M : Int} (h : ∀ p ∈ l, -M ≤ g p ∧ g p ≤ M) (hM : 0 ≤ M) : ∀ k, k ≤ l.length → -(M * k) ≤ sA g l k ∧ sA g l k ≤ M * k
  | 0, _ => by simp [sA]
  | k + 1, hk => by
    have ih := sA_bd h hM k (by omega)
    have hg := h _ (List.getElem_mem (show k < l.length by omega))
    rw [sA_go (show k < l.length by omega) rfl]
    push_cast
    rw [Int.mul_add, Int.mul_one]
    omega
def okL (l : List Pf) : Prop := l.length ≤ 300 ∧ ∀ p ∈ l, badP p = false
theorem okL_of {l : List Pf} (h : chkP l = 0) : okL l := by
  unfold chkP at h
  split at h
  · omega
  · exact ⟨by omega, chkR_no h⟩
theorem badP_no {p : Pf} (h : badP p = false) : Big 1000000 p.x p.y p.z ∧ Big 1000000000 p.p p.q p.r := by
  unfold badP at h
  rw [Bool.or_eq_false_iff] at h
  exact ⟨beyV_no h.1, beyV_no h.2⟩
theorem sum_bd {l : List Pf} (h : okL l) {k : Nat} (hk : k ≤ l.length) : Big 300000000000 (sA Pf.p l k) (sA Pf.q l k) (sA Pf.r l k) := by
  have a := sA_bd (g := Pf.p) (l := l) (M := 1000000000) (fun p hp => (badP_no (h.2 p hp)).2.1) (by omega) k hk
  have b := sA_bd (g := Pf.q) (l := l) (M := 1000000000) (fun p hp => (badP_no (h.2 p hp)).2.2.1) (by omega) k hk
  have c := sA_bd (g := Pf.r) (l := l) (M := 1000000000) (fun p hp => (badP_no (h.2 p hp)).2.2.2) (by omega) k hk
  have := h.1
  unfold Big; omega
def SuRel (l : List Pf) (T : TypeId) (w : World) (v : Value) (wr : World) : Prop :=
  ∃ k : Nat, k ≤ l.length ∧ v = .int .i64 (k : Int) ∧ Box wr w.heap.size #[.int .i64 0, .int .i64 0, .int .i64 0] T ∧ Box wr (w.heap.size + 1) #[.int .i64 (sA Pf.p l k), .int .i64 (sA Pf.q l k), .int .i64 (sA Pf.r l k)] T ∧ Below w.heap.size w wr
set_option maxRecDepth 100000 in
set_option maxHeartbeats 1600000 in
theorem sumOf_any (l : List Pf) (a : Option Addr) (cap : Nat) (w : World) (ho : okL l) (hp : PlAt w a l) :
    Calls Try.prog 45 #[.slice a l.length cap] w fun e w' => e = .returned (vec (sA Pf.p l l.length) (sA Pf.q l l.length) (sA Pf.r l l.length)) ∧ Below w.heap.size w w' := by
  have HP := Lib.hid hp; have HO := Lib.hid ho
  have hl := ho.1
  clear hp ho
  go_enter Try.func45, Try.ntmps45
  go_wp2_with fail
  go_loopw [8] (SuRel l 91 w) (fun i _ => l.length - (intOf i).toNat)
  case atStart => exact ⟨0, by omega, rfl, (Box.new _ _ _ rfl).alloc _, Box.new _ _ _ (by simp), by go_grown⟩
  case round =>
    obtain ⟨k, hk, rfl, hb0, hb1, hB⟩ := hrel
    have R0 := Lib.hid hb0; have R1 := Lib.hid hb1; clear hb0 hb1
    have zr := hB.size
    have l1 := R1.out.lt
    by_cases hkl : k < l.length
    · rcases HP.out.keep hB with h0 | ⟨b, o, rfl, hbl, hc⟩
      · rw [h0] at hkl; simp at hkl
      obtain ⟨c0, c1, c2, c3, c4, c5⟩ := hc k hkl
      clear hc
      rcases hlk : l[k] with ⟨x, y, z, p, q, r⟩
      rw [hlk] at c0 c1 c2 c3 c4 c5
      have GO := Lib.hid (And.intro (sA_go (g := Pf.p) hkl hlk) (And.intro (sA_go (g := Pf.q) hkl hlk) (sA_go (g := Pf.r) hkl hlk)))
      have hf := (badP_no (HO.out.2 _ (List.getElem_mem hkl))).2
      rw [hlk] at hf
      dsimp only at c0 c1 c2 c3 c4 c5 hf GO
      have CC := Lib.hid (fun u => vplus_any (sA Pf.p l k) (sA Pf.q l k) (sA Pf.r l k) p q r u ((sum_bd HO.out hk).up (by omega)) (hf.up (by omega)))
      clear hlk hf
      generalize sA Pf.p l k = A0 at *
      generalize sA Pf.q l k = A1 at *
      generalize sA Pf.r l k = A2 at *
      obtain ⟨m0, m1, m2, -⟩ := R1.out.three
      go_wp2_with fail
      clear c0 c1 c2 c3 c4 c5 m0 m1 m2
      refine (CC.out _).mono ?_
      rintro e w1 ⟨rfl, h⟩
      have B1 : Below w.heap.size w w1 := below_via (by (repeat' (first | (with_reducible exact Below.refl _ _) | (with_reducible assumption) | (with_reducible refine Below.drew ?_) | (with_reducible refine below_drewN ?_ _) | (with_reducible refine Below.setCell ?_ ?_ _) | (with_reducible refine Below.alloc ?_ ?_ _) | go_size | omega))) h
      have R0' := Lib.hid ((R0.out.alloc (.cells #[.int .i64 x, .int .i64 y, .int .i64 z, .int .i64 p, .int .i64 q, .int .i64 r] 27)).keep h); have R1' := Lib.hid ((R1.out.alloc (.cells #[.int .i64 x, .int .i64 y, .int .i64 z, .int .i64 p, .int .i64 q, .int .i64 r] 27)).keep h)
      clear h R0 R1 CC
      obtain ⟨m0, m1, m2, f0, f1, f2⟩ := R1'.out.three
      have l1' := R1'.out.lt
      go_wp2_with fail
      clear m0 m1 m2 f0 f1 f2
      have Q0 := R0'.out.other ⟨w.heap.size + 1, 0, none⟩ (.int .i64 (A0 + p)) (by simp) |>.other ⟨w.heap.size + 1, 1, none⟩ (.int .i64 (A1 + q)) (by simp) |>.other ⟨w.heap.size + 1, 2, none⟩ (.int .i64 (A2 + r)) (by simp)
      have Q1 : Box (((w1.setCell ⟨w.heap.size + 1, 0, none⟩ (.int .i64 (A0 + p))).setCell ⟨w.heap.size + 1, 1, none⟩ (.int .i64 (A1 + q))).setCell ⟨w.heap.size + 1, 2, none⟩ (.int .i64 (A2 + r))) (w.heap.size + 1) #[.int .i64 (A0 + p), .int .i64 (A1 + q), .int .i64 (A2 + r)] 91 := ((R1'.out.set 0 _).set 1 _).set 2 _
      have BQ : Below w.heap.size w (((w1.setCell ⟨w.heap.size + 1, 0, none⟩ (.int .i64 (A0 + p))).setCell ⟨w.heap.size + 1, 1, none⟩ (.int .i64 (A1 + q))).setCell ⟨w.heap.size + 1, 2, none⟩ (.int .i64 (A2 + r))) := by (repeat' (first | (with_reducible exact Below.refl _ _) | (with_reducible assumption) | (with_reducible refine Below.drew ?_) | (with_reducible refine below_drewN ?_ _) | (with_reducible refine Below.setCell ?_ ?_ _) | (with_reducible refine Below.alloc ?_ ?_ _) | go_size | omega))
      generalize (((w1.setCell ⟨w.heap.size + 1, 0, none⟩ (.int .i64 (A0 + p))).setCell ⟨w.heap.size + 1, 1, none⟩ (.int .i64 (A1 + q))).setCell ⟨w.heap.size + 1, 2, none⟩ (.int .i64 (A2 + r))) = w2 at *
      go_roundw
      case rel => exact ⟨k + 1, by omega, by simp, Q0, by rw [GO.out.1, GO.out.2.1, GO.out.2.2]; exact Q1, BQ⟩
      case measure => simp [intOf]; omega
    · obtain rfl : k = l.length := by omega
      generalize hA0 : sA Pf.p l l.length = A0 at *
      generalize hA1 : sA Pf.q l l.length = A1 at *
      generalize hA2 : sA Pf.r l l.length = A2 at *
      obtain ⟨m0, m1, m2, -⟩ := R1.out.three
      obtain ⟨n0, n1, n2, f0, f1, f2⟩ := R0.out.three
      have l0 := R0.out.lt
      go_wp2_with fail
      clear m0 m1 m2 n0 n1 n2 f0 f1 f2
      have RV : Box (((wr.setCell ⟨w.heap.size, 0, none⟩ (.int .i64 A0)).setCell ⟨w.heap.size, 1, none⟩ (.int .i64 A1)).setCell ⟨w.heap.size, 2, none⟩ (.int .i64 A2)) w.heap.size #[.int .i64 A0, .int .i64 A1, .int .i64 A2] 91 := ((R0.out.set 0 _).set 1 _).set 2 _
      have BV : Below w.heap.size w (((wr.setCell ⟨w.heap.size, 0, none⟩ (.int .i64 A0)).setCell ⟨w.heap.size, 1, none⟩ (.int .i64 A1)).setCell ⟨w.heap.size, 2, none⟩ (.int .i64 A2)) := by (repeat' (first | (with_reducible exact Below.refl _ _) | (with_reducible assumption) | (with_reducible refine Below.drew ?_) | (with_reducible refine below_drewN ?_ _) | (with_reducible refine Below.setCell ?_ ?_ _) | (with_reducible refine Below.alloc ?_ ?_ _) | go_size | omega))
      generalize (((wr.setCell ⟨w.heap.size, 0, none⟩ (.int .i64 A0)).setCell ⟨w.heap.size, 1, none⟩ (.int .i64 A1)).setCell ⟨w.heap.size, 2, none⟩ (.int .i64 A2)) = v at *
      have s0 := RV.cell 0; have s1 := RV.cell 1; have s2 := RV.cell 2
      simp at s0 s1 s2
      go_wp2_with fail
      refine bodyPost_ret (v := vec A0 A1 A2) (by simp [results, Try.results45, go_sem, s0, s1, s2]) rfl ⟨by rw [hA0, hA1, hA2], BV⟩
set_option maxRecDepth 100000 in
set_option maxHeartbeats 1600000 in
theorem rsum_any (l : List Pf) (a : Option Addr) (cap : Nat) (w : World) (ho : okL l) (hp : PlAt w a l) :
    Calls Try.prog 15 #[.slice a l.length cap] w fun e w' => e = .returned (vec (sA Pf.p l l.length) (sA Pf.q l l.length) (sA Pf.r l l.length)) ∧ Below w.heap.size w w' := by
  have HP := Lib.hid hp; have HO := Lib.hid ho
  have hl := ho.1
  clear hp ho
  go_enter Try.func15, Try.ntmps15
  go_wp2_with fail
  go_loopw [4] (SuRel l 23 w) (fun i _ => l.length - (intOf i).toNat)
  case atStart => exact ⟨0, by omega, rfl, (Box.new _ _ _ rfl).alloc _, Box.new _ _ _ (by simp), by go_grown⟩
  case round =>
    obtain ⟨k, hk, rfl, hb0, hb1, hB⟩ := hrel
    have R0 := Lib.hid hb0; have R1 := Lib.hid hb1; clear hb0 hb1
    have zr := hB.size
    have l1 := R1.out.lt
    by_cases hkl : k < l.length
    · rcases HP.out.keep hB with h0 | ⟨b, o, rfl, hbl, hc⟩
      · rw [h0] at hkl; simp at hkl
      obtain ⟨c0, c1, c2, c3, c4, c5⟩ := hc k hkl
      clear hc
      rcases hlk : l[k] with ⟨x, y, z, p, q, r⟩
      rw [hlk] at c0 c1 c2 c3 c4 c5
      have GO := Lib.hid (And.intro (sA_go (g := Pf.p) hkl hlk) (And.intro (sA_go (g := Pf.q) hkl hlk) (sA_go (g := Pf.r) hkl hlk)))
      have hf := (badP_no (HO.out.2 _ (List.getElem_mem hkl))).2
      rw [hlk] at hf
      dsimp only at c0 c1 c2 c3 c4 c5 hf GO
      have CC := Lib.hid (fun u => rplus_any (sA Pf.p l k) (sA Pf.q l k) (sA Pf.r l k) p q r u ((sum_bd HO.out hk).up (by omega)) (hf.up (by omega)))
      clear hlk hf
      generalize sA Pf.p l k = A0 at *
      generalize sA Pf.q l k = A1 at *
      generalize sA Pf.r l k = A2 at *
      obtain ⟨m0, m1, m2, -⟩ := R1.out.three
      go_wp2_with fail
      go_still_tail 6, (by kernel_rfl)
      clear c0 c1 c2 c3 c4 c5 m0 m1 m2
      have B0 : Below w.heap.size w wr.drew := hB.drew
      have S0 := Lib.hid (R0.out.drew); have S1 := Lib.hid (R1.out.drew)
      have zd := B0.size
      go_wp2_with fail
      refine (CC.out _).mono ?_
      rintro e w1 ⟨rfl, h⟩
      have B1 : Below w.heap.size w w1 := below_via B0 h
      have R0' := Lib.hid (S0.out.keep h); have R1' := Lib.hid (S1.out.keep h)
      clear h R0 R1 CC
      obtain ⟨m0, m1, m2, f0, f1, f2⟩ := R1'.out.three
      have l1' := R1'.out.lt
      go_wp2_with fail
      clear m0 m1 m2 f0 f1 f2
      have Q0 := R0'.out.other ⟨w.heap.size + 1, 0, none⟩ (.int .i64 (A0 + p)) (by simp) |>.other ⟨w.heap.size + 1, 1, none⟩ (.int .i64 (A1 + q)) (by simp) |>.other ⟨w.heap.size + 1, 2, none⟩ (.int .i64 (A2 + r)) (by simp)
      have Q1 : Box (((w1.setCell ⟨w.heap.size + 1, 0, none⟩ (.int .i64 (A0 + p))).setCell ⟨w.heap.size + 1, 1, none⟩ (.int .i64 (A1 + q))).setCell ⟨w.heap.size + 1, 2, none⟩ (.int .i64 (A2 + r))) (w.heap.size + 1) #[.int .i64 (A0 + p), .int .i64 (A1 + q), .int .i64 (A2 + r)] 23 := ((R1'.out.set 0 _).set 1 _).set 2 _
      have BQ : Below w.heap.size w (((w1.setCell ⟨w.heap.size + 1, 0, none⟩ (.int .i64 (A0 + p))).setCell ⟨w.heap.size + 1, 1, none⟩ (.int .i64 (A1 + q))).setCell ⟨w.heap.size + 1, 2, none⟩ (.int .i64 (A2 + r))) := by (repeat' (first | (with_reducible exact Below.refl _ _) | (with_reducible assumption) | (with_reducible refine Below.drew ?_) | (with_reducible refine below_drewN ?_ _) | (with_reducible refine Below.setCell ?_ ?_ _) | (with_reducible refine Below.alloc ?_ ?_ _) | go_size | omega))
      generalize (((w1.setCell ⟨w.heap.size + 1, 0, none⟩ (.int .i64 (A0 + p))).setCell ⟨w.heap.size + 1, 1, none⟩ (.int .i64 (A1 + q))).setCell ⟨w.heap.size + 1, 2, none⟩ (.int .i64 (A2 + r))) = w2 at *
      go_roundw
      case rel => exact ⟨k + 1, by omega, by simp, Q0, by rw [GO.out.1, GO.out.2.1, GO.out.2.2]; exact Q1, BQ⟩
      case measure => simp [intOf]; omega
    · obtain rfl : k = l.length := by omega
      generalize hA0 : sA Pf.p l l.length = A0 at *
      generalize hA1 : sA Pf.q l l.length = A1 at *
      generalize hA2 : sA Pf.r l l.length = A2 at *
      obtain ⟨m0, m1, m2, -⟩ := R1.out.three
      obtain ⟨n0, n1, n2, f0, f1, f2⟩ := R0.out.three
      have l0 := R0.out.lt
      go_wp2_with fail
      clear m0 m1 m2 n0 n1 n2 f0 f1 f2
      have RV : Box (((wr.setCell ⟨w.heap.size, 0, none⟩ (.int .i64 A0)).setCell ⟨w.heap.size, 1, none⟩ (.int .i64 A1)).setCell ⟨w.heap.size, 2, none⟩ (.int .i64 A2)) w.heap.size #[.int .i64 A0, .int .i64 A1, .int .i64 A2] 23 := ((R0.out.set 0 _).set 1 _).set 2 _
      have BV : Below w.heap.size w (((wr.setCell ⟨w.heap.size, 0, none⟩ (.int .i64 A0)).setCell ⟨w.heap.size, 1, none⟩ (.int .i64 A1)).setCell ⟨w.heap.size, 2, none⟩ (.int .i64 A2)) := by (repeat' (first | (with_reducible exact Below.refl _ _) | (with_reducible assumption) | (with_reducible refine Below.drew ?_) | (with_reducible refine below_drewN ?_ _) | (with_reducible refine Below.setCell ?_ ?_ _) | (with_reducible refine Below.alloc ?_ ?_ _) | go_size | omega))
      generalize (((wr.setCell ⟨w.heap.size, 0, none⟩ (.int .i64 A0)).setCell ⟨w.heap.size, 1, none⟩ (.int .i64 A1)).setCell ⟨w.heap.size, 2, none⟩ (.int .i64 A2)) = v at *
      have s0 := RV.cell 0; have s1 := RV.cell 1; have s2 := RV.cell 2
      simp at s0 s1 s2
      go_wp2_with fail
      refine bodyPost_ret (v := vec A0 A1 A2) (by simp [results, Try.results15, go_sem, s0, s1, s2]) rfl ⟨by rw [hA0, hA1, hA2], BV⟩
end Go.Proofs.Ytahfliboanphkaa
