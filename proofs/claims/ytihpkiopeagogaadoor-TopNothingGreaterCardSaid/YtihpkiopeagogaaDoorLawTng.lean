/-
  The walk of the law TopNothingGreater: it returns true, whatever the bounds, the numbers and the circle; older memory stays as it was. Its condition: the table of primes reads as it is laid.
-/
import Derived.Test.YtihpkiopeagogaaDoorCif
import Derived.Test.YtihpkiopeagogaaDoorCnt
namespace Go.Proofs.YtihpkiopeagogaaDoor
open Go.RowKit
def xf (xs : List Int) (v : Nat) : Int := xs.getD v 0
theorem xf_get {xs : List Int} {v : Nat} (h : v < xs.length) : xs[v] = xf xs v := by
  unfold xf; rw [List.getD_eq_getElem?_getD, List.getElem?_eq_getElem h]; rfl
def TngRel1 (xs : List Int) (w : World) (v : Value) (wr : World) : Prop :=
  ∃ k : Nat, k ≤ xs.length ∧ v = .int .i64 (k : Int) ∧ (∀ j, j < k → -1000000000 ≤ xf xs j ∧ xf xs j ≤ 0) ∧ w = wr
def TngRel2 (xs : List Int) (l : List Bd) (w : World) (v : Value) (wr : World) : Prop :=
  ∃ k : Nat, k ≤ l.length ∧ v = .int .i64 (k : Int) ∧ (∀ j (h : j < l.length), j < k → xf xs (toE l[j]).v ≤ xf xs (toE l[j]).u + (toE l[j]).m) ∧ Below w.heap.size w wr
def TngRel3 (n : Nat) (w : World) (v : Value) (wr : World) : Prop :=
  ∃ k : Nat, k ≤ n ∧ v = .int .i64 (k : Int) ∧ Below w.heap.size w wr
theorem feas_of {n : Nat} {xs : List Int} {l : List Bd} (hb : bdsE (n : Int) l = 0) (h : ∀ j (h : j < l.length), xf xs (toE l[j]).v ≤ xf xs (toE l[j]).u + (toE l[j]).m) : Feas n (xf xs) (l.map toE) := by
  intro e he
  obtain ⟨b, hbm, rfl⟩ := List.mem_map.1 he
  obtain ⟨⟨f0, f1⟩, ⟨t0, t1⟩, -⟩ := bdE_ok (bdsE_all hb b hbm)
  obtain ⟨j, hj, rfl⟩ := List.getElem_of_mem hbm
  refine ⟨?_, ?_, h j hj⟩
  · show (l[j]).f.toNat < n; omega
  · show (l[j]).t.toNat < n; omega
set_option maxRecDepth 100000 in
set_option maxHeartbeats 4000000 in
theorem lawTng (l : List Bd) (xs cs : List Int) (a a2 a3 : Option Addr) (ca c2 c3 : Nat) (w : World) (hp : Primes w) (hb : BdsAt w a l) (hx : IntsAt w a2 xs) (hc : IntsAt w a3 cs)
    (hl : l.length ≤ 9223372036854775807) (hxl : xs.length ≤ 9223372036854775807) (hcl : cs.length ≤ 9223372036854775807) :
    Calls Tryd.prog 3 #[.slice a l.length ca, .slice a2 xs.length c2, .slice a3 cs.length c3] w fun e w' => e = .returned (.bool true) ∧ Below w.heap.size w w' := by
  have HR := Lib.hid hp; have HB := Lib.hid hb; have HX := Lib.hid hx; have HC := Lib.hid hc
  clear hp hb hx hc
  go_enter Tryd.func3, Tryd.ntmps3
  go_wp2_with fail
  refine (counts_any _ HR.out).mono ?_
  rintro e w1 ⟨rfl, h1⟩
  have B1 : Below w.heap.size w w1 := h1
  have z1 := B1.size
  have HB1 := Lib.hid (HB.out.keep h1); have HX1 := Lib.hid (HX.out.keep h1); have HC1 := Lib.hid (HC.out.keep h1)
  clear h1 HB HX HC
  by_cases hl30 : 30 < l.length
  · go_wp2_with fail
    go_ret
    exact ⟨rfl, by assumption⟩
  by_cases hc60 : 60 < cs.length
  · go_wp2_with fail
    go_ret
    exact ⟨rfl, by assumption⟩
  have CK := Lib.hid (rchkSys_any (xs.length : Int) a ca l w1 HB1.out (by omega) (by omega) (by omega))
  have HS := Lib.hid (show ∃ s, sysE (xs.length : Int) l = s from ⟨_, rfl⟩)
  obtain ⟨s, hs⟩ := HS.out
  rw [hs] at CK
  clear HS
  have HS := Lib.hid hs; clear hs
  by_cases hs0 : s = 0
  · subst hs0
    go_wp2_with fail
    refine CK.out.mono ?_
    rintro e w2 ⟨rfl, h2⟩
    have B2 : Below w.heap.size w w2 := below_via B1 h2
    have z2 := B2.size
    have HB2 := Lib.hid (HB1.out.keep h2); have HX2 := Lib.hid (HX1.out.keep h2); have HC2 := Lib.hid (HC1.out.keep h2)
    clear h2 HB1 HX1 HC1 CK
    obtain ⟨N1, N60, hl200, hbd⟩ : 1 ≤ xs.length ∧ xs.length ≤ 60 ∧ l.length ≤ 200 ∧ bdsE (xs.length : Int) l = 0 := by
      have hs := HS.out
      unfold sysE at hs
      split at hs
      · omega
      · split at hs
        · omega
        · exact ⟨by omega, by omega, by omega, hs⟩
    have BD := Lib.hid hbd; clear hbd
    rcases HX2.out with he | ⟨bx, ox, rfl, hbx, hcx⟩
    · rw [he] at N1; simp at N1
    have HCX := Lib.hid hcx; clear hcx
    go_wp2_with fail
    go_loopw [8] (TngRel1 xs w2) (fun i _ => xs.length - (intOf i).toNat)
    case atStart => exact ⟨0, by omega, rfl, fun j h => by omega, rfl⟩
    case round =>
      obtain ⟨k, hk, rfl, hg, rfl⟩ := hrel
      have HG := Lib.hid hg; clear hg
      by_cases hkl : k < xs.length
      · have c0 := HCX.out k hkl
        rw [xf_get hkl] at c0
        generalize hv : xf xs k = v at *
        have HV := Lib.hid hv; clear hv
        cases hr : inR v (-1000000000) 0
        · go_wp2_with (go_at_call 6; refine (Within_any _ _ _ _).mono ?_; rintro e wq ⟨rfl, rfl⟩)
          go_ret
          exact ⟨rfl, by assumption⟩
        · have hr' := of_decide_eq_true hr
          go_wp2_with (go_at_call 6; refine (Within_any _ _ _ _).mono ?_; rintro e wq ⟨rfl, rfl⟩)
          go_roundw
          case rel =>
            refine ⟨k + 1, by omega, by simp, fun j hj => ?_, rfl⟩
            by_cases hjk : j = k
            · subst hjk; rw [HV.out]; exact hr'
            · exact HG.out j (by omega)
          case measure => simp [intOf]; omega
      · have HXB := Lib.hid (show ∀ j, j < xs.length → -1000000000 ≤ xf xs j ∧ xf xs j ≤ 0 from fun j hj => HG.out j (by omega))
        clear HG
        obtain rfl : k = xs.length := by omega
        go_wp2_with fail
        go_loopw [9] (TngRel2 xs l w2) (fun i _ => l.length - (intOf i).toNat)
        case atStart => exact ⟨0, by omega, rfl, fun j _ h => by omega, Below.refl _ _⟩
        case round =>
          obtain ⟨i, hi, rfl, hg, hB⟩ := hrel

          have HG := Lib.hid hg; have HBI := Lib.hid hB
          have zi := hB.size
          clear hg hB
          by_cases hil : i < l.length
          · rcases HB2.out.keep HBI.out with he | ⟨b, o, rfl, hb, hc⟩
            · rw [he] at hil; simp at hil
            obtain ⟨d0, d1, d2⟩ := hc i hil
            obtain ⟨⟨f0, f1⟩, ⟨t0, t1⟩, m0, m1⟩ := bdE_ok (bdsE_all BD.out _ (List.getElem_mem hil))
            have HE := Lib.hid (show ∃ bd, l[i] = bd from ⟨_, rfl⟩)
            obtain ⟨bd, hbd⟩ := HE.out
            rw [hbd] at d0 d1 d2 f0 f1 t0 t1 m0 m1
            have HBDE := Lib.hid hbd
            clear hc hbd HE
            obtain ⟨F, hF⟩ := Int.eq_ofNat_of_zero_le f0
            obtain ⟨T, hT⟩ := Int.eq_ofNat_of_zero_le t0
            rw [hF] at d0 f1; rw [hT] at d1 t1
            have HFT := Lib.hid (And.intro hF hT)
            clear hF hT f0 t0
            have hFl : F < xs.length := by omega
            have hTl : T < xs.length := by omega
            have sF := HCX.out F hFl
            have sT := HCX.out T hTl
            rw [← (bcell HBI.out).1 _ _ hbx, xf_get hFl] at sF
            rw [← (bcell HBI.out).1 _ _ hbx, xf_get hTl] at sT
            obtain ⟨xF0, xF1⟩ := HXB.out F hFl
            obtain ⟨xT0, xT1⟩ := HXB.out T hTl
            have hgoal : xf xs T ≤ xf xs F + bd.m → xf xs (toE l[i]).v ≤ xf xs (toE l[i]).u + (toE l[i]).m := by
              rw [HBDE.out]; unfold toE; rw [HFT.out.1, HFT.out.2]; simp
            have HGO := Lib.hid hgoal
            clear hgoal
            generalize bd.m = M at *
            generalize xf xs F = xF at *
            generalize xf xs T = xT at *
            clear HBDE HFT
            have ws : IntKind.i64.wrap (xT - xF) = xT - xF := IntWalk.i64_in _ (by omega)
            by_cases hle : M < xT - xF
            · go_wp2_with fail
              go_quiet (fail)
              go_wp2_with fail
              go_ret
              exact ⟨rfl, below_drewN (below_via B2 HBI.out) _⟩
            · go_wp2_with fail
              go_quiet (fail)
              go_wp2_with fail
              go_roundw
              case rel =>
                refine ⟨i + 1, by omega, by simp, fun j hj hji => ?_, below_drewN HBI.out _⟩
                by_cases hjk : j = i
                · subst hjk; exact HGO.out (by omega)
                · exact HG.out j hj (by omega)
              case measure => simp [intOf]; omega
          · obtain rfl : i = l.length := by omega
            have FE := Lib.hid (feas_of BD.out (fun j hj => HG.out j hj hj))
            have BI := HBI.out
            have B3 : Below w.heap.size w wr := below_via B2 BI
            have z3 := B3.size
            have HB3 := Lib.hid (HB2.out.keep BI); have HC3 := Lib.hid (HC2.out.keep BI)
            have hbx3 : bx < wr.heap.size := by omega
            have HCX3 := Lib.hid (show ∀ j (h : j < xs.length), wr.cell? ⟨bx, ox + j, none⟩ = some (.int .i64 (xf xs j)) from fun j h => by
              rw [(bcell BI).1 _ _ hbx, ← xf_get h]; exact HCX.out j h)
            have SV := Lib.hid (solve_feas xs.length (xf xs) l a ca wr HB3.out HS.out HXB.out FE.out)
            clear BI HBI HG HB2 HX2 HC2 HCX
            go_wp2_with fail
            refine SV.out.mono ?_
            rintro e w4 ⟨g, s, rfl, hs0, hs1, -, h4⟩
            have B4 : Below w.heap.size w w4 := below_via B3 h4
            have z4 := B4.size
            have y4 := h4.size
            have HB4 := Lib.hid (HB3.out.keep h4); have HC4 := Lib.hid (HC3.out.keep h4)
            have HS0 := Lib.hid hs0; have HS1 := Lib.hid hs1
            have HCX4 := Lib.hid (show ∀ j (h : j < xs.length), w4.cell? ⟨bx, ox + j, none⟩ = some (.int .i64 (xf xs j)) from fun j h => by
              rw [(bcell h4).1 _ _ hbx3]; exact HCX3.out j h)
            have hbx4 : bx < w4.heap.size := by omega
            have gl := hs0.lt
            clear h4 hs0 hs1 HB3 HC3 HCX3 SV
            have CC := Lib.hid (chkCir_any (xs.length : Int) a a3 ca c3 l cs w4 HB4.out HC4.out HS.out (by omega))
            have hno : (cirF l cs).2 ≠ 0 := fun h0 => by
              obtain ⟨h1, v, h2, h3⟩ := cirF_ok h0
              exact no_circle FE.out h2 h1 h3
            have HNO := Lib.hid hno
            clear hno
            go_wp2_with fail
            refine CC.out.mono ?_
            rintro e w5 ⟨rfl, h5⟩
            have B5 : Below w.heap.size w w5 := below_via B4 h5
            have z5 := B5.size
            have y5 := h5.size
            have HS5 := Lib.hid (HS0.out.keep h5)
            have HCX5 := Lib.hid (show ∀ j (h : j < xs.length), w5.cell? ⟨bx, ox + j, none⟩ = some (.int .i64 (xf xs j)) from fun j h => by
              rw [(bcell h5).1 _ _ hbx4]; exact HCX4.out j h)
            clear h5 HCX4 HS0 CC
            generalize hcf : (cirF l cs).2 = cf at *
            generalize (cirF l cs).1 = cf1 at *
            have hcf0 : (cf == 0) = false := by have := HNO.out; simpa using this
            clear hcf HNO
            go_wp2_with fail
            go_loopw [15] (TngRel3 xs.length w5) (fun i _ => xs.length - (intOf i).toNat)
            case atStart => exact ⟨0, by omega, rfl, Below.refl _ _⟩
            case round =>
              obtain ⟨i, hi, rfl, hB⟩ := hrel

              by_cases hil : i < xs.length
              · have e0 := HCX5.out i hil
                have f0 := (HS5.out.cell i).trans (rowA_get (s := s) hil)
                have hbx5 : bx < w5.heap.size := by omega
                have hg5 := HS5.out.lt
                rw [← (bcell hB).1 _ _ hbx5] at e0
                rw [← (bcell hB).1 _ _ hg5] at f0
                have hxs := (HS1.out i hil).1
                generalize xf xs i = xi at *
                generalize s i = si at *
                have hle : ¬ si < xi := by omega
                go_wp2_with fail
                go_quiet (fail)
                go_wp2_with fail
                go_roundw
                case rel => exact ⟨i + 1, by omega, by simp, below_drewN hB _⟩
                case measure => simp [intOf]; omega
              · obtain rfl : i = xs.length := by omega
                go_wp2_with fail
                go_ret
                exact ⟨rfl, B5.trans (hB.mono z5)⟩
  · have hs1 : (s != 0) = true := by simpa using hs0
    go_wp2_with fail
    refine CK.out.mono ?_
    rintro e w2 ⟨rfl, h2⟩
    have B2 : Below w.heap.size w w2 := below_via B1 h2
    clear h2
    go_wp2_with fail
    go_ret
    exact ⟨rfl, by assumption⟩
theorem lawTngA (l : List Bd) (a : Option Addr) (ca : Nat) (xs : List Int) (a2 : Option Addr) (c2 : Nat) (cs : List Int) (a3 : Option Addr) (c3 : Nat) (w : World) (hp : Primes w) (hb : BdsAt w a l) (hl : l.length ≤ 9223372036854775807) (hx : IntsAt w a2 xs) (hxl : xs.length ≤ 9223372036854775807) (_ : ∀ n ∈ xs, (Lit.int .i64 n).wf = true) (hc : IntsAt w a3 cs) (hcl : cs.length ≤ 9223372036854775807) (_ : ∀ n ∈ cs, (Lit.int .i64 n).wf = true) :
    Calls Tryd.prog 3 #[.slice a l.length ca, .slice a2 xs.length c2, .slice a3 cs.length c3] w fun e w' => e = .returned (.bool true) ∧ Below w.heap.size w w' :=
  lawTng l xs cs a a2 a3 ca c2 c3 w hp hb hx hc hl hxl hcl
end Go.Proofs.YtihpkiopeagogaaDoor
