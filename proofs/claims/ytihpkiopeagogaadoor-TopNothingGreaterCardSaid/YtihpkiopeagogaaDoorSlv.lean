/-
  The walk of Solve where some numbers keep all bounds: the greatest such numbers are found.
-/
import Derived.Test.YtihpkiopeagogaaDoorRow
namespace Go.Proofs.YtihpkiopeagogaaDoor
open Go.RowKit
def toE (b : Bd) : Edge := ⟨b.f.toNat, b.t.toNat, b.m⟩
theorem bdsE_all {n : Int} : ∀ {l : List Bd}, bdsE n l = 0 → ∀ b ∈ l, bdE n b = 0
  | [], _, b, hb => by cases hb
  | c :: t, h, b, hb => by
    have h' : (if bdE n c ≠ 0 then bdE n c else bdsE n t) = 0 := h
    by_cases hc : bdE n c = 0
    · rw [if_neg (by omega)] at h'
      rcases List.mem_cons.1 hb with rfl | hb
      · exact hc
      · exact bdsE_all h' b hb
    · rw [if_pos hc] at h'; omega
theorem bdE_ok {n : Int} {b : Bd} (h : bdE n b = 0) : (0 ≤ b.f ∧ b.f ≤ n - 1) ∧ (0 ≤ b.t ∧ b.t ≤ n - 1) ∧ (-1000000000 ≤ b.m ∧ b.m ≤ 1000000000) := by
  unfold bdE at h
  split at h
  · rename_i h1
    split at h
    · rename_i h2
      unfold inR at h1; unfold inB at h2; simp at h1 h2; omega
    · omega
  · omega
def SvI (N r : Nat) (x : Nat → Int) (l : List Bd) (g g2 : Nat) (w : World) (v30 v11 : Value) (wr : World) : Prop :=
  ∃ (i : Nat) (s : Nat → Int) (lv : Nat → Nat) (ch : Nat → List Nat) (cs : Array Value) (low : Bool), i ≤ l.length ∧ v30 = .int .i64 (i : Int) ∧ v11 = .bool low ∧
    BInv N x (l.map toE) (r + 1) i s lv ch low ∧ (∀ v, v < N → s v ≤ 0) ∧ Box wr g (rowA N s) 3 ∧ Box wr g2 cs 3 ∧ cs.size = N ∧ Below w.heap.size w wr
def SvO (N : Nat) (x : Nat → Int) (l : List Bd) (g g2 : Nat) (w : World) (v26 : Value) (wr : World) : Prop :=
  ∃ (r : Nat) (s : Nat → Int) (lv : Nat → Nat) (ch : Nat → List Nat) (cs : Array Value), r < N ∧ v26 = .int .i64 (r : Int) ∧
    BInv N x (l.map toE) (r + 1) 0 s lv ch false ∧ (∀ v, v < N → s v ≤ 0) ∧ Box wr g (rowA N s) 3 ∧ Box wr g2 cs 3 ∧ cs.size = N ∧ Below w.heap.size w wr
def SolvePost (N : Nat) (x : Nat → Int) (l : List Bd) (w : World) (e : Ending) (w' : World) : Prop :=
  ∃ (g : Nat) (s : Nat → Int), e = .returned (.tuple #[.slice (some ⟨g, 0, none⟩) N N, .slice none 0 0, .int .i64 0]) ∧ Box w' g (rowA N s) 3 ∧
    (∀ v, v < N → x v ≤ s v ∧ s v ≤ 0) ∧ (∀ e ∈ l.map toE, s e.v ≤ s e.u + e.m) ∧ Below w.heap.size w w'
set_option maxRecDepth 100000 in
set_option maxHeartbeats 1600000 in
theorem solve_feas (N : Nat) (x : Nat → Int) (l : List Bd) (a : Option Addr) (cap : Nat) (w : World) (hb : BdsAt w a l) (hs : sysE N l = 0) (hx : ∀ v, v < N → -1000000000 ≤ x v ∧ x v ≤ 0) (hf : Feas N x (l.map toE)) :
    Calls Tryd.prog 7 #[.int .i64 (N : Int), .slice a l.length cap] w (SolvePost N x l w) := by
  have hN : 1 ≤ N ∧ N ≤ 60 ∧ l.length ≤ 200 ∧ bdsE N l = 0 := by
    unfold sysE at hs
    split at hs
    · omega
    · split at hs
      · omega
      · exact ⟨by omega, by omega, by omega, hs⟩
  obtain ⟨N1, N60, hl, hbd⟩ := hN
  have BD := Lib.hid (bdsE_all hbd)
  have HF := Lib.hid hf; have HX := Lib.hid hx
  have CK := fun u : World => fun (h : BdsAt u a l) => chkSys_any (N : Int) a cap l u h (by omega) (by omega) (by omega)
  rw [hs] at CK
  have HCK := Lib.hid CK
  have HB := Lib.hid hb
  have hmk : ∀ u : World, (Instr.makeSlice 23 (.int .i64 (N : Int)) (.int .i64 (N : Int))).run Tryd.prog u = .ok (.slice (some ⟨u.heap.size, 0, none⟩) N N) (u.alloc (.cells (rowA N (fun _ => 0)) 3)) := by
    obtain ⟨i0, hi, hz0, hz1, hz2⟩ := info_parts info3
    intro u
    have h := run_makeSlice (P := Tryd.prog) (w := u) 23 3 i0 (.int .i64 0) Tryd.underlying23 hi hz0 .i64 .i64 (N : Int) (N : Int) (by omega) (by omega) (by rw [hz1]; simp; omega) (by rw [hz2]; simp; omega) (by omega)
    rw [Int.toNat_natCast, hz1, Nat.mul_one] at h
    rw [← rowA_zero]
    exact h
  clear hb hs hx hf hbd CK
  go_enter Tryd.func7, Tryd.ntmps7
  go_wp2_with fail
  refine (HCK.out _ HB.out).mono ?_
  rintro e w1 ⟨rfl, h1⟩
  have B1 : Below w.heap.size w w1 := h1
  have z1 := B1.size
  go_wp2_with fail
  have G1 := Lib.hid ((Box.new w1 (rowA N (fun _ => 0)) 3 rfl).alloc (.cells (rowA N (fun _ => 0)) 3))
  have G2 := Lib.hid (Box.new (w1.alloc (.cells (rowA N (fun _ => 0)) 3)) (rowA N (fun _ => 0)) 3 (n := w1.heap.size + 1) (by simp))
  have BU : Below w.heap.size w ((w1.alloc (.cells (rowA N (fun _ => 0)) 3)).alloc (.cells (rowA N (fun _ => 0)) 3)) := by go_grown
  have HBW := Lib.hid BU
  have gne : w1.heap.size ≠ w1.heap.size + 1 := by omega
  generalize (w1.alloc (.cells (rowA N (fun _ => 0)) 3)).alloc (.cells (rowA N (fun _ => 0)) 3) = u at *
  have gw : w.heap.size ≤ w1.heap.size := z1
  clear h1 hmk HCK BU B1 z1
  go_loopw [26] (SvO N x l w1.heap.size (w1.heap.size + 1) w) (fun i _ => N - (intOf i).toNat)
  case atStart => exact ⟨0, fun _ => 0, fun _ => 0, fun v => [v], rowA N (fun _ => 0), by omega, rfl, binv_start (fun v hv => (HX.out v hv).2), fun v _ => Int.le_refl _, G1.out, G2.out, by simp [rowA], HBW.out⟩
  case round =>
    clear G1 G2 HBW
    obtain ⟨r, s, lv, ch, cs, hr, rfl, hI, hz, hg1, hg2, hcs, hB⟩ := hrel
    have HI := Lib.hid hI; have HZ := Lib.hid hz; have K1 := Lib.hid hg1; have K2 := Lib.hid hg2; have HB' := Lib.hid hB
    clear hI hz hg1 hg2 hB
    go_wp2_with fail
    go_loopw [30, 11] (SvI N r x l w1.heap.size (w1.heap.size + 1) w) (fun i _ _ => l.length - (intOf i).toNat)
    case atStart => exact ⟨0, s, lv, ch, cs, false, by omega, rfl, rfl, HI.out, HZ.out, K1.out, K2.out, hcs, HB'.out⟩
    case round =>
      clear HI HZ K1 K2 HB' hcs
      obtain ⟨i, s, lv, ch, cs, low, hi, rfl, rfl, hI, hz, hg1, hg2, hcs, hB⟩ := hrel
      have HI := Lib.hid hI; have HZ := Lib.hid hz; have K1 := Lib.hid hg1; have K2 := Lib.hid hg2; have HB' := Lib.hid hB
      have l1 := hg1.lt
      have l2 := hg2.lt
      have zr := hB.size
      clear hI hz hg1 hg2 hB
      by_cases hil : i < l.length
      · rcases HB.out.keep HB'.out with he | ⟨b, o, rfl, hb, hc⟩
        · rw [he] at hil; simp at hil
        obtain ⟨c0, c1, c2⟩ := hc i hil
        obtain ⟨⟨f0, f1⟩, ⟨t0, t1⟩, m0, m1⟩ := bdE_ok (BD.out _ (List.getElem_mem hil))
        have HE := Lib.hid (show (l.map toE)[i]'(by simpa using hil) = toE l[i] by simp)
        clear hc
        generalize l[i] = bd at *
        obtain ⟨F, hF⟩ := Int.eq_ofNat_of_zero_le f0
        obtain ⟨T, hT⟩ := Int.eq_ofNat_of_zero_le t0
        generalize hM : bd.m = M at *
        rw [hF] at c0 f1; rw [hT] at c1 t1
        have HM := Lib.hid hM
        have HFT := Lib.hid (And.intro hF hT)
        clear hF hT hM f0 t0
        have sF := (K1.out.cell F).trans (rowA_get (s := s) (show F < N by omega))
        have sT := (K1.out.cell T).trans (rowA_get (s := s) (show T < N by omega))
        have b1 := HZ.out F (by omega)
        have b2 := HI.out.ge F (by omega)
        have b3 := (HX.out F (by omega)).1
        have wf : IntKind.i64.wrap (s F + M) = s F + M := IntWalk.i64_in _ (by omega)
        go_wp2_with fail
        go_region
        have hE2 : (l.map toE)[i]'(by simpa using hil) = ⟨F, T, M⟩ := by
          rw [HE.out]; unfold toE; rw [HFT.out.1, HFT.out.2, HM.out]; simp
        have HE2 := Lib.hid hE2
        have X := Lib.hid (Box.new wr #[.int .i64 (F : Int), .int .i64 (T : Int), .int .i64 M] 28 rfl).drew
        have Bv : Below wr.heap.size wr ((wr.alloc (.cells #[.int .i64 (F : Int), .int .i64 (T : Int), .int .i64 M] 28)).drew) := by go_grown
        have K1v := Lib.hid (K1.out.keep Bv); have K2v := Lib.hid (K2.out.keep Bv)
        have HBv := Lib.hid (HB'.out.trans (Bv.mono zr))
        clear hE2 c0 c1 c2 sF sT K1 K2 wf HE HM
        generalize ((wr.alloc (.cells #[.int .i64 (F : Int), .int .i64 (T : Int), .int .i64 M] 28)).drew) = v at *
        have wf : IntKind.i64.wrap (s F + M) = s F + M := IntWalk.i64_in _ (by omega)
        obtain ⟨x0, x1, x2, -⟩ := X.out.three
        have sT := (K1v.out.cell T).trans (rowA_get (s := s) (show T < N by omega))
        have fT := K1v.out.free T
        have pT := K2v.out.cell T
        have qT := K2v.out.free T
        have lx := X.out.lt
        rw [Array.getElem?_eq_getElem (show T < cs.size by omega)] at pT
        generalize cs[T] = old at *
        clear Bv b1 b2 b3
        by_cases hlow : s F + M < s T
        · have HL := Lib.hid hlow
          go_wp2_with fail
          go_region
          have KA : Box (((v.setCell ⟨w1.heap.size, T, none⟩ (.int .i64 (s F + M))).setCell ⟨w1.heap.size + 1, T, none⟩ (.int .i64 (i : Int))).drew) w1.heap.size (rowA N (upd s T (s F + M))) 3 := by
            rw [← rowA_set (s F + M) (show T < N by omega)]
            exact ((K1v.out.set T _).other ⟨w1.heap.size + 1, T, none⟩ _ gne).drew
          have KB : Box (((v.setCell ⟨w1.heap.size, T, none⟩ (.int .i64 (s F + M))).setCell ⟨w1.heap.size + 1, T, none⟩ (.int .i64 (i : Int))).drew) (w1.heap.size + 1) (cs.setIfInBounds T (.int .i64 (i : Int))) 3 := ((K2v.out.other ⟨w1.heap.size, T, none⟩ _ (fun h => gne h.symm)).set T _).drew
          have KX : Box (((v.setCell ⟨w1.heap.size, T, none⟩ (.int .i64 (s F + M))).setCell ⟨w1.heap.size + 1, T, none⟩ (.int .i64 (i : Int))).drew) wr.heap.size #[.int .i64 (F : Int), .int .i64 (T : Int), .int .i64 M] 28 := ((X.out.other ⟨w1.heap.size, T, none⟩ _ (by simp; omega)).other ⟨w1.heap.size + 1, T, none⟩ _ (by simp; omega)).drew
          have BZ : Below w.heap.size w (((v.setCell ⟨w1.heap.size, T, none⟩ (.int .i64 (s F + M))).setCell ⟨w1.heap.size + 1, T, none⟩ (.int .i64 (i : Int))).drew) := ((HBv.out.setCell (p := ⟨w1.heap.size, T, none⟩) gw _).setCell (p := ⟨w1.heap.size + 1, T, none⟩) (Nat.le_succ_of_le gw) _).drew
          have KA' := Lib.hid KA; have KB' := Lib.hid KB; have BZ' := Lib.hid BZ
          obtain ⟨y0, y1, y2, -⟩ := KX.three
          have ly := KX.lt
          clear KA KB KX BZ x0 x1 x2 sT fT pT qT K1v K2v X HBv
          generalize (((v.setCell ⟨w1.heap.size, T, none⟩ (.int .i64 (s F + M))).setCell ⟨w1.heap.size + 1, T, none⟩ (.int .i64 (i : Int))).drew) = v2 at *
          go_wp2_with fail
          go_roundw
          case rel =>
            have hI := binv_lower HI.out HF.out (i := i) (by simpa using hil) (by rw [HE2.out]; exact HL.out)
            rw [HE2.out] at hI
            refine ⟨i + 1, _, _, _, _, true, by omega, by simp, rfl, hI, fun q hq => ?_, KA'.out, KB'.out, by simp [hcs], BZ'.out⟩
            by_cases hqt : q = T
            · subst hqt; show upd s q _ q ≤ 0; rw [upd_same]; show s F + M ≤ 0; have := HZ.out q hq; have := HL.out; omega
            · show upd s T _ q ≤ 0; rw [upd_other _ _ hqt]; exact HZ.out q hq
          case measure => simp [intOf]; omega
        · have HL := Lib.hid (show s T ≤ s F + M by omega)
          go_wp2_with fail
          go_roundw
          case rel => exact ⟨i + 1, s, lv, ch, cs, low, by omega, by simp, rfl, binv_keep HI.out (by simpa using hil) (by rw [HE2.out]; exact HL.out), HZ.out, K1v.out, K2v.out, hcs, HBv.out⟩
          case measure => simp [intOf]; omega
      · obtain rfl : i = l.length := by omega
        have hlen : (l.map toE).length = l.length := by simp
        cases low
        · have HD := Lib.hid (binv_done (by rw [hlen]; exact HI.out) HF.out)
          go_wp2_with fail
          go_ret3
          exact ⟨w1.heap.size, s, rfl, K1.out, fun q hq => ⟨HI.out.ge q hq, HZ.out q hq⟩, HD.out, HB'.out⟩
        · have hr' : r + 1 < N := by
            rcases Nat.lt_or_ge (r + 1) N with h | h
            · exact h
            · have he : r + 1 = N := by omega
              have h2 := HI.out
              rw [he] at h2
              have := binv_last h2
              cases this
          have HN := Lib.hid (binv_next (by rw [hlen]; exact HI.out))
          go_wp2_with fail
          go_roundw
          case rel => exact ⟨r + 1, s, lv, ch, cs, hr', by simp, HN.out, HZ.out, K1.out, K2.out, hcs, HB'.out⟩
          case measure => simp [intOf]; omega
end Go.Proofs.YtihpkiopeagogaaDoor
