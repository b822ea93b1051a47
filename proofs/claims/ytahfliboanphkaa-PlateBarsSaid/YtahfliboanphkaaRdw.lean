/-
  The loads of bars: the walk of the reference's Distribute.
-/
import Derived.Test.YtahfliboanphkaaRdi
namespace Go.Proofs.Ytahfliboanphkaa
open Go.RowKit
attribute [local go_sem ↓] Go.wp_at_zero Go.wp_at_succ
set_option maxRecDepth 100000 in
set_option maxHeartbeats 12800000 in
theorem rdist_any (l : List Int) (m b o cap : Nat) (hlm : l.length = m + 1) (hb : brE l = 0) (L : List (Int × Int)) (aL : Option Addr) (capL : Nat) (w : World) (hbl : b < w.heap.size) (hc : ∀ j (h : j < l.length), w.cell? ⟨b, o + j, none⟩ = some (.int .i64 l[j])) (hL : LdAt w aL L) (hLk : chkL (l.getD 0 0) (l.getD m 0) L = 0) :
    Calls Try.prog 31 #[.slice (some ⟨b, o, none⟩) (m + 1) cap, .slice aL L.length capL] w (RdPost l m L w) := by
  obtain ⟨i0, hi0, hz0, hz1, hz2⟩ := info_parts infoF
  have hB := okB_of hb
  have hY := okY_of hLk
  have m1 : 1 ≤ m := by have := hB.1; omega
  have m2 : m ≤ 19 := by have := hB.1; omega
  have hLl := hY.1
  have CE := Lib.hid (fun (u : World) (hu : Below w.heap.size w u) (j : Nat) (hj : j < m + 1) => show u.cell? ⟨b, o + j, none⟩ = some (.int .i64 (l.getD j 0)) from by
    rw [(bcell hu).1 b _ hbl, hc j (by omega), List.getD_eq_getElem?_getD, List.getElem?_eq_getElem (by omega)]; rfl)
  have HLM := Lib.hid (And.intro hlm (And.intro hB hY))
  have HL := Lib.hid hL
  clear hb hLk hc hL hlm hB hY
  go_enter Try.func31, Try.ntmps31
  go_wp2_with fail
  go_loopw [5, 6] (RdRel l m L w) (fun _ i _ => m + 1 - (intOf i).toNat)
  case atStart => exact ⟨0, by omega, rfl, World.ownsRow_nil _ _ _ _, Below.refl _ _⟩
  case round =>
    obtain ⟨i, hi, rfl, ho, hB⟩ := hrel
    have HO := Lib.hid ho; clear ho
    obtain ⟨u, rfl⟩ : ∃ x : World, x = wr := ⟨_, rfl⟩
    by_cases him : i < m + 1
    · rcases (show (i = 0) ∨ (0 < i ∧ i < m) ∨ (0 < i ∧ i = m) by omega) with h0 | ⟨h0, h1⟩ | ⟨h0, h1⟩
      · have cC := CE.out u hB i (by omega)
        have cN := CE.out u hB (i + 1) (by omega)
        have bN := HLM.out.2.1.2.1 (i + 1) (by have := HLM.out.1; omega)
        have hCN := HLM.out.2.1.2.2 i (by have := HLM.out.1; omega)
        have e3 : IntKind.i64.wrap ((i : Int) + 1) = (i : Int) + 1 := IntWalk.i64_in _ (by omega)
        have e4 : ((i : Int) + 1).toNat = i + 1 := by omega
        have bC := HLM.out.2.1.2.1 i (by have := HLM.out.1; omega)
        have W1 := Lib.hid (show Wb l i = 1 by unfold Wb; rw [if_neg (by omega)])
        have W2 := Lib.hid (show Wn l m i = l.getD (i + 1) 0 - l.getD i 0 by unfold Wn; rw [if_pos (by omega)])
        have SBD := Lib.hid (fun k hk => sums_bd HLM.out.1 HLM.out.2.1 HLM.out.2.2 i (by omega) k hk)
        generalize hCC : l.getD i 0 = C at cC bC W1 W2 hCN
        have HC := Lib.hid hCC; clear hCC
        generalize hNN : l.getD (i + 1) 0 = N at cN bN hCN W2
        have HN := Lib.hid hNN; clear hNN
        have i9 : (i : Int) ≤ 0 := by omega
        have z1 : decide ((0 : Int) < (i : Int)) = false := by simp; omega
        have z2 : decide (0 < i) = false := by simp; omega
        have i8 : (i : Int) + 1 < (m : Int) + 1 := by omega
        have j2 : (0 : Int) ≤ (i : Int) + 1 := by omega
        have i7 : (0 : Int) ≤ (i : Int) := by omega
        have i6 : (i : Int) < (m : Int) + 1 := by omega
        clear h0
        go_wp2_with fail
        go_quiet (fail)
        go_wp2_with fail
        have hbu : b < u.heap.size := Nat.lt_of_lt_of_le hbl hB.size
        go_loopw [7, 8, 9, 12] (InRel l m i L u) (fun _ _ _ k _ => L.length - (intOf k).toNat)
        case atStart => exact ⟨0, by omega, rfl, rfl, rfl, rfl, by (repeat' (first | (with_reducible exact Below.refl _ _) | (with_reducible assumption) | (with_reducible refine Below.drew ?_) | (with_reducible refine below_drewN ?_ _) | (with_reducible refine Below.setCell ?_ ?_ _) | (with_reducible refine Below.alloc ?_ ?_ _) | go_size | omega))⟩
        case round =>
          obtain ⟨k, hk, rfl, rfl, rfl, rfl, hB2⟩ := hrel
          obtain ⟨s7, s8, s9⟩ := SBD.out k hk
          by_cases hkl : k < L.length
          · rcases HL.out.keep (below_via hB hB2) with h0 | ⟨bL, oL, rfl, hbL, hcL⟩
            · rw [h0] at hkl; simp at hkl
            obtain ⟨c0, c1⟩ := hcL k hkl
            clear hcL
            have hyb := HLM.out.2.2.2 _ (List.getElem_mem hkl)
            have b00 := HLM.out.2.1.2.1 0 (by have := HLM.out.1; omega)
            have b0m := HLM.out.2.1.2.1 m (by have := HLM.out.1; omega)
            rcases hlk : L[k] with ⟨x, wt⟩
            rw [hlk] at c0 c1 hyb
            have HY := Lib.hid hlk; clear hlk
            dsimp only at c0 c1 hyb
            obtain ⟨⟨x0, x1⟩, w0, w1⟩ := hyb
            have bx0 : -20000 ≤ x := by omega
            have bx1 : x ≤ 20000 := by omega
            clear b00 b0m x0 x1
            have dC := ((bcell hB2).1 b _ hbu).trans cC
            have dN := ((bcell hB2).1 b _ hbu).trans cN
            have k0' : (0 : Int) ≤ (k : Int) := by omega
            have k1' : (k : Int) < (L.length : Int) := by omega
            clear cC cN
            by_cases hx : x = C
            · subst hx
              have S7 := Lib.hid (show sL (lf l i) L (k + 1) = sL (lf l i) L k + (0) from by rw [sL_go hkl HY.out]; congr 1; show lf l i (x, wt) = _; unfold lf; dsimp only; rw [HC.out]; (try rw [HP.out]); (try rw [HN.out]); (repeat' split) <;> omega)
              have S8 := Lib.hid (show sL (rg l m i) L (k + 1) = sL (rg l m i) L k + (0) from by rw [sL_go hkl HY.out]; congr 1; show rg l m i (x, wt) = _; unfold rg; dsimp only; rw [HC.out]; (try rw [HP.out]); (try rw [HN.out]); (repeat' split) <;> omega)
              have S9 := Lib.hid (show sL (ow l i) L (k + 1) = sL (ow l i) L k + (wt) from by rw [sL_go hkl HY.out]; congr 1; show ow l i (x, wt) = _; unfold ow; dsimp only; rw [HC.out]; (try rw [HP.out]); (try rw [HN.out]); (repeat' split) <;> omega)
              generalize sL (lf l i) L k = a7 at *
              generalize sL (rg l m i) L k = a8 at *
              generalize sL (ow l i) L k = a9 at *
              go_wp2_with fail
              go_quiet (fail)
              go_wp2_with fail
              go_roundw
              case rel => exact ⟨k + 1, by omega, by simp, by rw [S7.out, Int.add_zero], by rw [S8.out, Int.add_zero], by rw [S9.out], by (repeat' (first | (with_reducible exact Below.refl _ _) | (with_reducible assumption) | (with_reducible refine Below.drew ?_) | (with_reducible refine below_drewN ?_ _) | (with_reducible refine Below.setCell ?_ ?_ _) | (with_reducible refine Below.alloc ?_ ?_ _) | go_size | omega))⟩
              case measure => simp [intOf]; omega
            by_cases hlt : x < C
            · skip
              have S7 := Lib.hid (show sL (lf l i) L (k + 1) = sL (lf l i) L k + (0) from by rw [sL_go hkl HY.out]; congr 1; show lf l i (x, wt) = _; unfold lf; dsimp only; rw [HC.out]; (try rw [HP.out]); (try rw [HN.out]); (repeat' split) <;> omega)
              have S8 := Lib.hid (show sL (rg l m i) L (k + 1) = sL (rg l m i) L k + (0) from by rw [sL_go hkl HY.out]; congr 1; show rg l m i (x, wt) = _; unfold rg; dsimp only; rw [HC.out]; (try rw [HP.out]); (try rw [HN.out]); (repeat' split) <;> omega)
              have S9 := Lib.hid (show sL (ow l i) L (k + 1) = sL (ow l i) L k + (0) from by rw [sL_go hkl HY.out]; congr 1; show ow l i (x, wt) = _; unfold ow; dsimp only; rw [HC.out]; (try rw [HP.out]); (try rw [HN.out]); (repeat' split) <;> omega)
              generalize sL (lf l i) L k = a7 at *
              generalize sL (rg l m i) L k = a8 at *
              generalize sL (ow l i) L k = a9 at *
              go_wp2_with fail
              go_quiet (fail)
              go_wp2_with fail
              go_roundw
              case rel => exact ⟨k + 1, by omega, by simp, by rw [S7.out, Int.add_zero], by rw [S8.out, Int.add_zero], by rw [S9.out, Int.add_zero], by (repeat' (first | (with_reducible exact Below.refl _ _) | (with_reducible assumption) | (with_reducible refine Below.drew ?_) | (with_reducible refine below_drewN ?_ _) | (with_reducible refine Below.setCell ?_ ?_ _) | (with_reducible refine Below.alloc ?_ ?_ _) | go_size | omega))⟩
              case measure => simp [intOf]; omega
            · have hgt : C < x := by omega
              by_cases hN : x < N
              · have mb := mul_bd w0 w1 (show -40000 ≤ N - x by omega) (show N - x ≤ 40000 by omega)
                have S7 := Lib.hid (show sL (lf l i) L (k + 1) = sL (lf l i) L k + (0) from by rw [sL_go hkl HY.out]; congr 1; show lf l i (x, wt) = _; unfold lf; dsimp only; rw [HC.out]; (try rw [HP.out]); (try rw [HN.out]); (repeat' split) <;> omega)
                have S8 := Lib.hid (show sL (rg l m i) L (k + 1) = sL (rg l m i) L k + (wt * (N - x)) from by rw [sL_go hkl HY.out]; congr 1; show rg l m i (x, wt) = _; unfold rg; dsimp only; rw [HC.out]; (try rw [HP.out]); (try rw [HN.out]); (repeat' split) <;> omega)
                have S9 := Lib.hid (show sL (ow l i) L (k + 1) = sL (ow l i) L k + (0) from by rw [sL_go hkl HY.out]; congr 1; show ow l i (x, wt) = _; unfold ow; dsimp only; rw [HC.out]; (try rw [HP.out]); (try rw [HN.out]); (repeat' split) <;> omega)
                generalize sL (lf l i) L k = a7 at *
                generalize sL (rg l m i) L k = a8 at *
                generalize sL (ow l i) L k = a9 at *
                go_wp2_with fail
                go_quiet (fail)
                go_wp2_with fail
                go_roundw
                case rel => exact ⟨k + 1, by omega, by simp, by rw [S7.out, Int.add_zero], by rw [S8.out], by rw [S9.out, Int.add_zero], by (repeat' (first | (with_reducible exact Below.refl _ _) | (with_reducible assumption) | (with_reducible refine Below.drew ?_) | (with_reducible refine below_drewN ?_ _) | (with_reducible refine Below.setCell ?_ ?_ _) | (with_reducible refine Below.alloc ?_ ?_ _) | go_size | omega))⟩
                case measure => simp [intOf]; omega
              · skip
                have S7 := Lib.hid (show sL (lf l i) L (k + 1) = sL (lf l i) L k + (0) from by rw [sL_go hkl HY.out]; congr 1; show lf l i (x, wt) = _; unfold lf; dsimp only; rw [HC.out]; (try rw [HP.out]); (try rw [HN.out]); (repeat' split) <;> omega)
                have S8 := Lib.hid (show sL (rg l m i) L (k + 1) = sL (rg l m i) L k + (0) from by rw [sL_go hkl HY.out]; congr 1; show rg l m i (x, wt) = _; unfold rg; dsimp only; rw [HC.out]; (try rw [HP.out]); (try rw [HN.out]); (repeat' split) <;> omega)
                have S9 := Lib.hid (show sL (ow l i) L (k + 1) = sL (ow l i) L k + (0) from by rw [sL_go hkl HY.out]; congr 1; show ow l i (x, wt) = _; unfold ow; dsimp only; rw [HC.out]; (try rw [HP.out]); (try rw [HN.out]); (repeat' split) <;> omega)
                generalize sL (lf l i) L k = a7 at *
                generalize sL (rg l m i) L k = a8 at *
                generalize sL (ow l i) L k = a9 at *
                go_wp2_with fail
                go_quiet (fail)
                go_wp2_with fail
                go_roundw
                case rel => exact ⟨k + 1, by omega, by simp, by rw [S7.out, Int.add_zero], by rw [S8.out, Int.add_zero], by rw [S9.out, Int.add_zero], by (repeat' (first | (with_reducible exact Below.refl _ _) | (with_reducible assumption) | (with_reducible refine Below.drew ?_) | (with_reducible refine below_drewN ?_ _) | (with_reducible refine Below.setCell ?_ ?_ _) | (with_reducible refine Below.alloc ?_ ?_ _) | go_size | omega))⟩
                case measure => simp [intOf]; omega
          · obtain rfl : k = L.length := by omega
            have E1 := Lib.hid (show rnum l m L i = sL (ow l i) L L.length * Wb l i * Wn l m i + sL (lf l i) L L.length * Wn l m i + sL (rg l m i) L L.length * Wb l i from rfl)
            have E2 := Lib.hid (show rden l m i = Wb l i * Wn l m i from rfl)
            rw [W1.out, W2.out] at E1 E2
            try simp only [Int.mul_one, Int.one_mul] at E1
            try simp only [Int.mul_one, Int.one_mul] at E2
            generalize sL (lf l i) L L.length = r7 at *
            generalize sL (rg l m i) L L.length = r8 at *
            generalize sL (ow l i) L L.length = r9 at *
            obtain ⟨m5', m6'⟩ := mul_bd (show -4000000000000 ≤ r7 by omega) (show r7 ≤ 4000000000000 by omega) (show -40000 ≤ N - C by omega) (show N - C ≤ 40000 by omega)
            obtain ⟨m7', m8'⟩ := mul_bd (show -100000000 ≤ r9 by omega) (show r9 ≤ 100000000 by omega) (show -40000 ≤ N - C by omega) (show N - C ≤ 40000 by omega)
            have CLo := Lib.hid (fun u => lowest_any (r9 * (N - C) + r7 * (N - C) + r8) (N - C) u (by omega) (by omega) (by omega) (by omega))
            have F1 := Lib.hid (show redN (r9 * (N - C) + r7 * (N - C) + r8) (N - C) = rfN l m L i by unfold rfN; rw [E1.out, E2.out])
            have F2 := Lib.hid (show redD (r9 * (N - C) + r7 * (N - C) + r8) (N - C) = rfD l m L i by unfold rfD; rw [E1.out, E2.out])
            rw [F1.out, F2.out] at CLo
            clear E1 E2 F1 F2 W1 W2
            go_wp2_with fail
            refine (CLo.out _).mono ?_
            rintro e w3 ⟨rfl, h⟩
            have B3 : Below w.heap.size w w3 := below_via (below_via hB hB2) (below_via (by (repeat' (first | (with_reducible exact Below.refl _ _) | (with_reducible assumption) | (with_reducible refine Below.drew ?_) | (with_reducible refine below_drewN ?_ _) | (with_reducible refine Below.setCell ?_ ?_ _) | (with_reducible refine Below.alloc ?_ ?_ _) | go_size | omega))) h)
            have U3 : Below u.heap.size u w3 := below_via hB2 (below_via (by (repeat' (first | (with_reducible exact Below.refl _ _) | (with_reducible assumption) | (with_reducible refine Below.drew ?_) | (with_reducible refine below_drewN ?_ _) | (with_reducible refine Below.setCell ?_ ?_ _) | (with_reducible refine Below.alloc ?_ ?_ _) | go_size | omega))) h)
            have O3 := Lib.hid (owns_keep HO.out U3)
            have z3 := U3.size
            have z3w := B3.size
            have BS := Lib.hid (brl_snoc (rfN l m L) (rfD l m L) i)
            clear h CLo HO
            go_wp2_with (at_builtin; refine wpList_append_lies _ rfl _ _ 50 rfl w.heap.size 63 i0 _ 2 16 Try.underlying50 hi0 hz0 hz1 hz2 rfl (by omega) _ i _ rfl (O3.out.alloc _) ⟨w3.heap.size, 0, none⟩ 1 1 [.int .i64 (rfN l m L i), .int .i64 (rfD l m L i)] rfl rfl (World.news_of_block (heap_alloc_new w3 _)) (by simp [Value.oneCell']) (by omega) (by unfold maxLen; omega) (by omega) (by have := B3.size; simp; omega) _ rfl ?_; intro g7 cg7 w7 hown hgrow hat hlt)
            rw [BS.out] at hown
            have O7 := Lib.hid hown
            have B7 : Below w.heap.size w w7 := Below.grown (by (repeat' (first | (with_reducible exact Below.refl _ _) | (with_reducible assumption) | (with_reducible refine Below.drew ?_) | (with_reducible refine below_drewN ?_ _) | (with_reducible refine Below.setCell ?_ ?_ _) | (with_reducible refine Below.alloc ?_ ?_ _) | go_size | omega))) hgrow (by have := B3.size; simp; omega) (fun j e => (O3.out.lt _ e).1)
            clear hown hgrow hat BS
            go_wp2_with fail
            go_roundw
            case rel => exact ⟨i + 1, by omega, by simp, O7.out, B7⟩
            case measure => simp [intOf]; omega
      · have cC := CE.out u hB i (by omega)
        obtain ⟨p, hp⟩ : ∃ p, i = p + 1 := ⟨i - 1, by omega⟩
        have cP := CE.out u hB p (by omega)
        have bP := HLM.out.2.1.2.1 p (by have := HLM.out.1; omega)
        have hPC := HLM.out.2.1.2.2 p (by have := HLM.out.1; omega)
        have HP := Lib.hid (show l.getD (i - 1) 0 = l.getD p 0 by rw [show i - 1 = p by omega])
        rw [show p + 1 = i by omega] at hPC
        have e1 : IntKind.i64.wrap ((i : Int) - 1) = (p : Int) := by rw [show (i : Int) - 1 = (p : Int) by omega]; exact IntWalk.i64_in _ (by omega)
        have e2 : ((i : Int) - 1).toNat = p := by omega
        have cN := CE.out u hB (i + 1) (by omega)
        have bN := HLM.out.2.1.2.1 (i + 1) (by have := HLM.out.1; omega)
        have hCN := HLM.out.2.1.2.2 i (by have := HLM.out.1; omega)
        have e3 : IntKind.i64.wrap ((i : Int) + 1) = (i : Int) + 1 := IntWalk.i64_in _ (by omega)
        have e4 : ((i : Int) + 1).toNat = i + 1 := by omega
        have bC := HLM.out.2.1.2.1 i (by have := HLM.out.1; omega)
        have W1 := Lib.hid (show Wb l i = l.getD i 0 - l.getD p 0 by unfold Wb; rw [if_pos (by omega), HP.out])
        have W2 := Lib.hid (show Wn l m i = l.getD (i + 1) 0 - l.getD i 0 by unfold Wn; rw [if_pos (by omega)])
        have SBD := Lib.hid (fun k hk => sums_bd HLM.out.1 HLM.out.2.1 HLM.out.2.2 i (by omega) k hk)
        generalize hCC : l.getD i 0 = C at cC bC W1 W2 hPC hCN
        have HC := Lib.hid hCC; clear hCC
        generalize l.getD p 0 = P at cP bP hPC W1 HP
        generalize hNN : l.getD (i + 1) 0 = N at cN bN hCN W2
        have HN := Lib.hid hNN; clear hNN
        have i9 : (0 : Int) < (i : Int) := by omega
        have j0 : (0 : Int) ≤ (i : Int) - 1 := by omega
        have j1 : (i : Int) - 1 < (m : Int) + 1 := by omega
        have i8 : (i : Int) + 1 < (m : Int) + 1 := by omega
        have j2 : (0 : Int) ≤ (i : Int) + 1 := by omega
        have i7 : (0 : Int) ≤ (i : Int) := by omega
        have i6 : (i : Int) < (m : Int) + 1 := by omega
        clear hp
        go_wp2_with fail
        go_quiet (fail)
        go_wp2_with fail
        go_quiet (fail)
        go_wp2_with fail
        have hbu : b < u.heap.size := Nat.lt_of_lt_of_le hbl hB.size
        go_loopw [7, 8, 9, 12] (InRel l m i L u) (fun _ _ _ k _ => L.length - (intOf k).toNat)
        case atStart => exact ⟨0, by omega, rfl, rfl, rfl, rfl, by (repeat' (first | (with_reducible exact Below.refl _ _) | (with_reducible assumption) | (with_reducible refine Below.drew ?_) | (with_reducible refine below_drewN ?_ _) | (with_reducible refine Below.setCell ?_ ?_ _) | (with_reducible refine Below.alloc ?_ ?_ _) | go_size | omega))⟩
        case round =>
          obtain ⟨k, hk, rfl, rfl, rfl, rfl, hB2⟩ := hrel
          obtain ⟨s7, s8, s9⟩ := SBD.out k hk
          by_cases hkl : k < L.length
          · rcases HL.out.keep (below_via hB hB2) with h0 | ⟨bL, oL, rfl, hbL, hcL⟩
            · rw [h0] at hkl; simp at hkl
            obtain ⟨c0, c1⟩ := hcL k hkl
            clear hcL
            have hyb := HLM.out.2.2.2 _ (List.getElem_mem hkl)
            have b00 := HLM.out.2.1.2.1 0 (by have := HLM.out.1; omega)
            have b0m := HLM.out.2.1.2.1 m (by have := HLM.out.1; omega)
            rcases hlk : L[k] with ⟨x, wt⟩
            rw [hlk] at c0 c1 hyb
            have HY := Lib.hid hlk; clear hlk
            dsimp only at c0 c1 hyb
            obtain ⟨⟨x0, x1⟩, w0, w1⟩ := hyb
            have bx0 : -20000 ≤ x := by omega
            have bx1 : x ≤ 20000 := by omega
            clear b00 b0m x0 x1
            have dC := ((bcell hB2).1 b _ hbu).trans cC
            have dP := ((bcell hB2).1 b _ hbu).trans cP
            have dN := ((bcell hB2).1 b _ hbu).trans cN
            have k0' : (0 : Int) ≤ (k : Int) := by omega
            have k1' : (k : Int) < (L.length : Int) := by omega
            clear cC cP cN
            by_cases hx : x = C
            · subst hx
              have S7 := Lib.hid (show sL (lf l i) L (k + 1) = sL (lf l i) L k + (0) from by rw [sL_go hkl HY.out]; congr 1; show lf l i (x, wt) = _; unfold lf; dsimp only; rw [HC.out]; (try rw [HP.out]); (try rw [HN.out]); (repeat' split) <;> omega)
              have S8 := Lib.hid (show sL (rg l m i) L (k + 1) = sL (rg l m i) L k + (0) from by rw [sL_go hkl HY.out]; congr 1; show rg l m i (x, wt) = _; unfold rg; dsimp only; rw [HC.out]; (try rw [HP.out]); (try rw [HN.out]); (repeat' split) <;> omega)
              have S9 := Lib.hid (show sL (ow l i) L (k + 1) = sL (ow l i) L k + (wt) from by rw [sL_go hkl HY.out]; congr 1; show ow l i (x, wt) = _; unfold ow; dsimp only; rw [HC.out]; (try rw [HP.out]); (try rw [HN.out]); (repeat' split) <;> omega)
              generalize sL (lf l i) L k = a7 at *
              generalize sL (rg l m i) L k = a8 at *
              generalize sL (ow l i) L k = a9 at *
              go_wp2_with fail
              go_quiet (fail)
              go_wp2_with fail
              go_roundw
              case rel => exact ⟨k + 1, by omega, by simp, by rw [S7.out, Int.add_zero], by rw [S8.out, Int.add_zero], by rw [S9.out], by (repeat' (first | (with_reducible exact Below.refl _ _) | (with_reducible assumption) | (with_reducible refine Below.drew ?_) | (with_reducible refine below_drewN ?_ _) | (with_reducible refine Below.setCell ?_ ?_ _) | (with_reducible refine Below.alloc ?_ ?_ _) | go_size | omega))⟩
              case measure => simp [intOf]; omega
            by_cases hlt : x < C
            · by_cases hP : P < x
              · have mb := mul_bd w0 w1 (show -40000 ≤ x - P by omega) (show x - P ≤ 40000 by omega)
                have S7 := Lib.hid (show sL (lf l i) L (k + 1) = sL (lf l i) L k + (wt * (x - P)) from by rw [sL_go hkl HY.out]; congr 1; show lf l i (x, wt) = _; unfold lf; dsimp only; rw [HC.out]; (try rw [HP.out]); (try rw [HN.out]); (repeat' split) <;> omega)
                have S8 := Lib.hid (show sL (rg l m i) L (k + 1) = sL (rg l m i) L k + (0) from by rw [sL_go hkl HY.out]; congr 1; show rg l m i (x, wt) = _; unfold rg; dsimp only; rw [HC.out]; (try rw [HP.out]); (try rw [HN.out]); (repeat' split) <;> omega)
                have S9 := Lib.hid (show sL (ow l i) L (k + 1) = sL (ow l i) L k + (0) from by rw [sL_go hkl HY.out]; congr 1; show ow l i (x, wt) = _; unfold ow; dsimp only; rw [HC.out]; (try rw [HP.out]); (try rw [HN.out]); (repeat' split) <;> omega)
                generalize sL (lf l i) L k = a7 at *
                generalize sL (rg l m i) L k = a8 at *
                generalize sL (ow l i) L k = a9 at *
                go_wp2_with fail
                go_quiet (fail)
                go_wp2_with fail
                go_roundw
                case rel => exact ⟨k + 1, by omega, by simp, by rw [S7.out], by rw [S8.out, Int.add_zero], by rw [S9.out, Int.add_zero], by (repeat' (first | (with_reducible exact Below.refl _ _) | (with_reducible assumption) | (with_reducible refine Below.drew ?_) | (with_reducible refine below_drewN ?_ _) | (with_reducible refine Below.setCell ?_ ?_ _) | (with_reducible refine Below.alloc ?_ ?_ _) | go_size | omega))⟩
                case measure => simp [intOf]; omega
              · have hle : x ≤ P := by omega
                have hxC : x ≤ C := by omega
                have S7 := Lib.hid (show sL (lf l i) L (k + 1) = sL (lf l i) L k + (0) from by rw [sL_go hkl HY.out]; congr 1; show lf l i (x, wt) = _; unfold lf; dsimp only; rw [HC.out]; (try rw [HP.out]); (try rw [HN.out]); (repeat' split) <;> omega)
                have S8 := Lib.hid (show sL (rg l m i) L (k + 1) = sL (rg l m i) L k + (0) from by rw [sL_go hkl HY.out]; congr 1; show rg l m i (x, wt) = _; unfold rg; dsimp only; rw [HC.out]; (try rw [HP.out]); (try rw [HN.out]); (repeat' split) <;> omega)
                have S9 := Lib.hid (show sL (ow l i) L (k + 1) = sL (ow l i) L k + (0) from by rw [sL_go hkl HY.out]; congr 1; show ow l i (x, wt) = _; unfold ow; dsimp only; rw [HC.out]; (try rw [HP.out]); (try rw [HN.out]); (repeat' split) <;> omega)
                generalize sL (lf l i) L k = a7 at *
                generalize sL (rg l m i) L k = a8 at *
                generalize sL (ow l i) L k = a9 at *
                go_wp2_with fail
                go_quiet (fail)
                go_wp2_with fail
                go_roundw
                case rel => exact ⟨k + 1, by omega, by simp, by rw [S7.out, Int.add_zero], by rw [S8.out, Int.add_zero], by rw [S9.out, Int.add_zero], by (repeat' (first | (with_reducible exact Below.refl _ _) | (with_reducible assumption) | (with_reducible refine Below.drew ?_) | (with_reducible refine below_drewN ?_ _) | (with_reducible refine Below.setCell ?_ ?_ _) | (with_reducible refine Below.alloc ?_ ?_ _) | go_size | omega))⟩
                case measure => simp [intOf]; omega
            · have hgt : C < x := by omega
              have hgp : P < x := by omega
              by_cases hN : x < N
              · have mb := mul_bd w0 w1 (show -40000 ≤ N - x by omega) (show N - x ≤ 40000 by omega)
                have S7 := Lib.hid (show sL (lf l i) L (k + 1) = sL (lf l i) L k + (0) from by rw [sL_go hkl HY.out]; congr 1; show lf l i (x, wt) = _; unfold lf; dsimp only; rw [HC.out]; (try rw [HP.out]); (try rw [HN.out]); (repeat' split) <;> omega)
                have S8 := Lib.hid (show sL (rg l m i) L (k + 1) = sL (rg l m i) L k + (wt * (N - x)) from by rw [sL_go hkl HY.out]; congr 1; show rg l m i (x, wt) = _; unfold rg; dsimp only; rw [HC.out]; (try rw [HP.out]); (try rw [HN.out]); (repeat' split) <;> omega)
                have S9 := Lib.hid (show sL (ow l i) L (k + 1) = sL (ow l i) L k + (0) from by rw [sL_go hkl HY.out]; congr 1; show ow l i (x, wt) = _; unfold ow; dsimp only; rw [HC.out]; (try rw [HP.out]); (try rw [HN.out]); (repeat' split) <;> omega)
                generalize sL (lf l i) L k = a7 at *
                generalize sL (rg l m i) L k = a8 at *
                generalize sL (ow l i) L k = a9 at *
                go_wp2_with fail
                go_quiet (fail)
                go_wp2_with fail
                go_roundw
                case rel => exact ⟨k + 1, by omega, by simp, by rw [S7.out, Int.add_zero], by rw [S8.out], by rw [S9.out, Int.add_zero], by (repeat' (first | (with_reducible exact Below.refl _ _) | (with_reducible assumption) | (with_reducible refine Below.drew ?_) | (with_reducible refine below_drewN ?_ _) | (with_reducible refine Below.setCell ?_ ?_ _) | (with_reducible refine Below.alloc ?_ ?_ _) | go_size | omega))⟩
                case measure => simp [intOf]; omega
              · skip
                have S7 := Lib.hid (show sL (lf l i) L (k + 1) = sL (lf l i) L k + (0) from by rw [sL_go hkl HY.out]; congr 1; show lf l i (x, wt) = _; unfold lf; dsimp only; rw [HC.out]; (try rw [HP.out]); (try rw [HN.out]); (repeat' split) <;> omega)
                have S8 := Lib.hid (show sL (rg l m i) L (k + 1) = sL (rg l m i) L k + (0) from by rw [sL_go hkl HY.out]; congr 1; show rg l m i (x, wt) = _; unfold rg; dsimp only; rw [HC.out]; (try rw [HP.out]); (try rw [HN.out]); (repeat' split) <;> omega)
                have S9 := Lib.hid (show sL (ow l i) L (k + 1) = sL (ow l i) L k + (0) from by rw [sL_go hkl HY.out]; congr 1; show ow l i (x, wt) = _; unfold ow; dsimp only; rw [HC.out]; (try rw [HP.out]); (try rw [HN.out]); (repeat' split) <;> omega)
                generalize sL (lf l i) L k = a7 at *
                generalize sL (rg l m i) L k = a8 at *
                generalize sL (ow l i) L k = a9 at *
                go_wp2_with fail
                go_quiet (fail)
                go_wp2_with fail
                go_roundw
                case rel => exact ⟨k + 1, by omega, by simp, by rw [S7.out, Int.add_zero], by rw [S8.out, Int.add_zero], by rw [S9.out, Int.add_zero], by (repeat' (first | (with_reducible exact Below.refl _ _) | (with_reducible assumption) | (with_reducible refine Below.drew ?_) | (with_reducible refine below_drewN ?_ _) | (with_reducible refine Below.setCell ?_ ?_ _) | (with_reducible refine Below.alloc ?_ ?_ _) | go_size | omega))⟩
                case measure => simp [intOf]; omega
          · obtain rfl : k = L.length := by omega
            have E1 := Lib.hid (show rnum l m L i = sL (ow l i) L L.length * Wb l i * Wn l m i + sL (lf l i) L L.length * Wn l m i + sL (rg l m i) L L.length * Wb l i from rfl)
            have E2 := Lib.hid (show rden l m i = Wb l i * Wn l m i from rfl)
            rw [W1.out, W2.out] at E1 E2
            try simp only [Int.mul_one, Int.one_mul] at E1
            try simp only [Int.mul_one, Int.one_mul] at E2
            generalize sL (lf l i) L L.length = r7 at *
            generalize sL (rg l m i) L L.length = r8 at *
            generalize sL (ow l i) L L.length = r9 at *
            obtain ⟨m1', m2'⟩ := mul_bd (show -100000000 ≤ r9 by omega) (show r9 ≤ 100000000 by omega) (show -40000 ≤ C - P by omega) (show C - P ≤ 40000 by omega)
            obtain ⟨m3', m4'⟩ := mul_bd (show -4000000000000 ≤ r8 by omega) (show r8 ≤ 4000000000000 by omega) (show -40000 ≤ C - P by omega) (show C - P ≤ 40000 by omega)
            obtain ⟨m5', m6'⟩ := mul_bd (show -4000000000000 ≤ r7 by omega) (show r7 ≤ 4000000000000 by omega) (show -40000 ≤ N - C by omega) (show N - C ≤ 40000 by omega)
            obtain ⟨m7', m8'⟩ := mul_bd (show -4000000000000 ≤ r9 * (C - P) by omega) (show r9 * (C - P) ≤ 4000000000000 by omega) (show -40000 ≤ N - C by omega) (show N - C ≤ 40000 by omega)
            obtain ⟨-, m9'⟩ := mul_bd (show -40000 ≤ C - P by omega) (show C - P ≤ 40000 by omega) (show -40000 ≤ N - C by omega) (show N - C ≤ 40000 by omega)
            have m10' : 1 ≤ (C - P) * (N - C) := by have := Int.mul_le_mul (show 1 ≤ C - P by omega) (show 1 ≤ N - C by omega) (by omega) (by omega); omega
            have CLo := Lib.hid (fun u => lowest_any (r9 * (C - P) * (N - C) + r7 * (N - C) + r8 * (C - P)) ((C - P) * (N - C)) u (by omega) (by omega) (by omega) (by omega))
            have F1 := Lib.hid (show redN (r9 * (C - P) * (N - C) + r7 * (N - C) + r8 * (C - P)) ((C - P) * (N - C)) = rfN l m L i by unfold rfN; rw [E1.out, E2.out])
            have F2 := Lib.hid (show redD (r9 * (C - P) * (N - C) + r7 * (N - C) + r8 * (C - P)) ((C - P) * (N - C)) = rfD l m L i by unfold rfD; rw [E1.out, E2.out])
            rw [F1.out, F2.out] at CLo
            clear E1 E2 F1 F2 W1 W2
            go_wp2_with fail
            refine (CLo.out _).mono ?_
            rintro e w3 ⟨rfl, h⟩
            have B3 : Below w.heap.size w w3 := below_via (below_via hB hB2) (below_via (by (repeat' (first | (with_reducible exact Below.refl _ _) | (with_reducible assumption) | (with_reducible refine Below.drew ?_) | (with_reducible refine below_drewN ?_ _) | (with_reducible refine Below.setCell ?_ ?_ _) | (with_reducible refine Below.alloc ?_ ?_ _) | go_size | omega))) h)
            have U3 : Below u.heap.size u w3 := below_via hB2 (below_via (by (repeat' (first | (with_reducible exact Below.refl _ _) | (with_reducible assumption) | (with_reducible refine Below.drew ?_) | (with_reducible refine below_drewN ?_ _) | (with_reducible refine Below.setCell ?_ ?_ _) | (with_reducible refine Below.alloc ?_ ?_ _) | go_size | omega))) h)
            have O3 := Lib.hid (owns_keep HO.out U3)
            have z3 := U3.size
            have z3w := B3.size
            have BS := Lib.hid (brl_snoc (rfN l m L) (rfD l m L) i)
            clear h CLo HO
            go_wp2_with (at_builtin; refine wpList_append_lies _ rfl _ _ 50 rfl w.heap.size 63 i0 _ 2 16 Try.underlying50 hi0 hz0 hz1 hz2 rfl (by omega) _ i _ rfl (O3.out.alloc _) ⟨w3.heap.size, 0, none⟩ 1 1 [.int .i64 (rfN l m L i), .int .i64 (rfD l m L i)] rfl rfl (World.news_of_block (heap_alloc_new w3 _)) (by simp [Value.oneCell']) (by omega) (by unfold maxLen; omega) (by omega) (by have := B3.size; simp; omega) _ rfl ?_; intro g7 cg7 w7 hown hgrow hat hlt)
            rw [BS.out] at hown
            have O7 := Lib.hid hown
            have B7 : Below w.heap.size w w7 := Below.grown (by (repeat' (first | (with_reducible exact Below.refl _ _) | (with_reducible assumption) | (with_reducible refine Below.drew ?_) | (with_reducible refine below_drewN ?_ _) | (with_reducible refine Below.setCell ?_ ?_ _) | (with_reducible refine Below.alloc ?_ ?_ _) | go_size | omega))) hgrow (by have := B3.size; simp; omega) (fun j e => (O3.out.lt _ e).1)
            clear hown hgrow hat BS
            go_wp2_with fail
            go_roundw
            case rel => exact ⟨i + 1, by omega, by simp, O7.out, B7⟩
            case measure => simp [intOf]; omega
      · have cC := CE.out u hB i (by omega)
        obtain ⟨p, hp⟩ : ∃ p, i = p + 1 := ⟨i - 1, by omega⟩
        have cP := CE.out u hB p (by omega)
        have bP := HLM.out.2.1.2.1 p (by have := HLM.out.1; omega)
        have hPC := HLM.out.2.1.2.2 p (by have := HLM.out.1; omega)
        have HP := Lib.hid (show l.getD (i - 1) 0 = l.getD p 0 by rw [show i - 1 = p by omega])
        rw [show p + 1 = i by omega] at hPC
        have e1 : IntKind.i64.wrap ((i : Int) - 1) = (p : Int) := by rw [show (i : Int) - 1 = (p : Int) by omega]; exact IntWalk.i64_in _ (by omega)
        have e2 : ((i : Int) - 1).toNat = p := by omega
        have bC := HLM.out.2.1.2.1 i (by have := HLM.out.1; omega)
        have W1 := Lib.hid (show Wb l i = l.getD i 0 - l.getD p 0 by unfold Wb; rw [if_pos (by omega), HP.out])
        have W2 := Lib.hid (show Wn l m i = 1 by unfold Wn; rw [if_neg (by omega)])
        have SBD := Lib.hid (fun k hk => sums_bd HLM.out.1 HLM.out.2.1 HLM.out.2.2 i (by omega) k hk)
        generalize hCC : l.getD i 0 = C at cC bC W1 W2 hPC
        have HC := Lib.hid hCC; clear hCC
        generalize l.getD p 0 = P at cP bP hPC W1 HP
        have i9 : (0 : Int) < (i : Int) := by omega
        have j0 : (0 : Int) ≤ (i : Int) - 1 := by omega
        have j1 : (i : Int) - 1 < (m : Int) + 1 := by omega
        have i8 : (m : Int) ≤ (i : Int) := by omega
        have z3 : decide ((i : Int) + 1 < (m : Int) + 1) = false := by simp; omega
        have z4 : decide (i + 1 < m + 1) = false := by simp; omega
        have z5 : decide (i < m) = false := by simp; omega
        have z6 : decide ((i : Int) < (m : Int)) = false := by simp; omega
        have i7 : (0 : Int) ≤ (i : Int) := by omega
        have i6 : (i : Int) < (m : Int) + 1 := by omega
        clear hp
        clear h1
        go_wp2_with fail
        go_quiet (fail)
        go_wp2_with fail
        have hbu : b < u.heap.size := Nat.lt_of_lt_of_le hbl hB.size
        go_loopw [7, 8, 9, 12] (InRel l m i L u) (fun _ _ _ k _ => L.length - (intOf k).toNat)
        case atStart => exact ⟨0, by omega, rfl, rfl, rfl, rfl, by (repeat' (first | (with_reducible exact Below.refl _ _) | (with_reducible assumption) | (with_reducible refine Below.drew ?_) | (with_reducible refine below_drewN ?_ _) | (with_reducible refine Below.setCell ?_ ?_ _) | (with_reducible refine Below.alloc ?_ ?_ _) | go_size | omega))⟩
        case round =>
          obtain ⟨k, hk, rfl, rfl, rfl, rfl, hB2⟩ := hrel
          obtain ⟨s7, s8, s9⟩ := SBD.out k hk
          by_cases hkl : k < L.length
          · rcases HL.out.keep (below_via hB hB2) with h0 | ⟨bL, oL, rfl, hbL, hcL⟩
            · rw [h0] at hkl; simp at hkl
            obtain ⟨c0, c1⟩ := hcL k hkl
            clear hcL
            have hyb := HLM.out.2.2.2 _ (List.getElem_mem hkl)
            have b00 := HLM.out.2.1.2.1 0 (by have := HLM.out.1; omega)
            have b0m := HLM.out.2.1.2.1 m (by have := HLM.out.1; omega)
            rcases hlk : L[k] with ⟨x, wt⟩
            rw [hlk] at c0 c1 hyb
            have HY := Lib.hid hlk; clear hlk
            dsimp only at c0 c1 hyb
            obtain ⟨⟨x0, x1⟩, w0, w1⟩ := hyb
            have bx0 : -20000 ≤ x := by omega
            have bx1 : x ≤ 20000 := by omega
            clear b00 b0m x0 x1
            have dC := ((bcell hB2).1 b _ hbu).trans cC
            have dP := ((bcell hB2).1 b _ hbu).trans cP
            have k0' : (0 : Int) ≤ (k : Int) := by omega
            have k1' : (k : Int) < (L.length : Int) := by omega
            clear cC cP
            by_cases hx : x = C
            · subst hx
              have S7 := Lib.hid (show sL (lf l i) L (k + 1) = sL (lf l i) L k + (0) from by rw [sL_go hkl HY.out]; congr 1; show lf l i (x, wt) = _; unfold lf; dsimp only; rw [HC.out]; (try rw [HP.out]); (try rw [HN.out]); (repeat' split) <;> omega)
              have S8 := Lib.hid (show sL (rg l m i) L (k + 1) = sL (rg l m i) L k + (0) from by rw [sL_go hkl HY.out]; congr 1; show rg l m i (x, wt) = _; unfold rg; dsimp only; rw [HC.out]; (try rw [HP.out]); (try rw [HN.out]); (repeat' split) <;> omega)
              have S9 := Lib.hid (show sL (ow l i) L (k + 1) = sL (ow l i) L k + (wt) from by rw [sL_go hkl HY.out]; congr 1; show ow l i (x, wt) = _; unfold ow; dsimp only; rw [HC.out]; (try rw [HP.out]); (try rw [HN.out]); (repeat' split) <;> omega)
              generalize sL (lf l i) L k = a7 at *
              generalize sL (rg l m i) L k = a8 at *
              generalize sL (ow l i) L k = a9 at *
              go_wp2_with fail
              go_quiet (fail)
              go_wp2_with fail
              go_roundw
              case rel => exact ⟨k + 1, by omega, by simp, by rw [S7.out, Int.add_zero], by rw [S8.out, Int.add_zero], by rw [S9.out], by (repeat' (first | (with_reducible exact Below.refl _ _) | (with_reducible assumption) | (with_reducible refine Below.drew ?_) | (with_reducible refine below_drewN ?_ _) | (with_reducible refine Below.setCell ?_ ?_ _) | (with_reducible refine Below.alloc ?_ ?_ _) | go_size | omega))⟩
              case measure => simp [intOf]; omega
            by_cases hlt : x < C
            · by_cases hP : P < x
              · have mb := mul_bd w0 w1 (show -40000 ≤ x - P by omega) (show x - P ≤ 40000 by omega)
                have S7 := Lib.hid (show sL (lf l i) L (k + 1) = sL (lf l i) L k + (wt * (x - P)) from by rw [sL_go hkl HY.out]; congr 1; show lf l i (x, wt) = _; unfold lf; dsimp only; rw [HC.out]; (try rw [HP.out]); (try rw [HN.out]); (repeat' split) <;> omega)
                have S8 := Lib.hid (show sL (rg l m i) L (k + 1) = sL (rg l m i) L k + (0) from by rw [sL_go hkl HY.out]; congr 1; show rg l m i (x, wt) = _; unfold rg; dsimp only; rw [HC.out]; (try rw [HP.out]); (try rw [HN.out]); (repeat' split) <;> omega)
                have S9 := Lib.hid (show sL (ow l i) L (k + 1) = sL (ow l i) L k + (0) from by rw [sL_go hkl HY.out]; congr 1; show ow l i (x, wt) = _; unfold ow; dsimp only; rw [HC.out]; (try rw [HP.out]); (try rw [HN.out]); (repeat' split) <;> omega)
                generalize sL (lf l i) L k = a7 at *
                generalize sL (rg l m i) L k = a8 at *
                generalize sL (ow l i) L k = a9 at *
                go_wp2_with fail
                go_quiet (fail)
                go_wp2_with fail
                go_roundw
                case rel => exact ⟨k + 1, by omega, by simp, by rw [S7.out], by rw [S8.out, Int.add_zero], by rw [S9.out, Int.add_zero], by (repeat' (first | (with_reducible exact Below.refl _ _) | (with_reducible assumption) | (with_reducible refine Below.drew ?_) | (with_reducible refine below_drewN ?_ _) | (with_reducible refine Below.setCell ?_ ?_ _) | (with_reducible refine Below.alloc ?_ ?_ _) | go_size | omega))⟩
                case measure => simp [intOf]; omega
              · have hle : x ≤ P := by omega
                have hxC : x ≤ C := by omega
                have S7 := Lib.hid (show sL (lf l i) L (k + 1) = sL (lf l i) L k + (0) from by rw [sL_go hkl HY.out]; congr 1; show lf l i (x, wt) = _; unfold lf; dsimp only; rw [HC.out]; (try rw [HP.out]); (try rw [HN.out]); (repeat' split) <;> omega)
                have S8 := Lib.hid (show sL (rg l m i) L (k + 1) = sL (rg l m i) L k + (0) from by rw [sL_go hkl HY.out]; congr 1; show rg l m i (x, wt) = _; unfold rg; dsimp only; rw [HC.out]; (try rw [HP.out]); (try rw [HN.out]); (repeat' split) <;> omega)
                have S9 := Lib.hid (show sL (ow l i) L (k + 1) = sL (ow l i) L k + (0) from by rw [sL_go hkl HY.out]; congr 1; show ow l i (x, wt) = _; unfold ow; dsimp only; rw [HC.out]; (try rw [HP.out]); (try rw [HN.out]); (repeat' split) <;> omega)
                generalize sL (lf l i) L k = a7 at *
                generalize sL (rg l m i) L k = a8 at *
                generalize sL (ow l i) L k = a9 at *
                go_wp2_with fail
                go_quiet (fail)
                go_wp2_with fail
                go_roundw
                case rel => exact ⟨k + 1, by omega, by simp, by rw [S7.out, Int.add_zero], by rw [S8.out, Int.add_zero], by rw [S9.out, Int.add_zero], by (repeat' (first | (with_reducible exact Below.refl _ _) | (with_reducible assumption) | (with_reducible refine Below.drew ?_) | (with_reducible refine below_drewN ?_ _) | (with_reducible refine Below.setCell ?_ ?_ _) | (with_reducible refine Below.alloc ?_ ?_ _) | go_size | omega))⟩
                case measure => simp [intOf]; omega
            · have hgt : C < x := by omega
              have hgp : P < x := by omega
              have S7 := Lib.hid (show sL (lf l i) L (k + 1) = sL (lf l i) L k + (0) from by rw [sL_go hkl HY.out]; congr 1; show lf l i (x, wt) = _; unfold lf; dsimp only; rw [HC.out]; (try rw [HP.out]); (try rw [HN.out]); (repeat' split) <;> omega)
              have S8 := Lib.hid (show sL (rg l m i) L (k + 1) = sL (rg l m i) L k + (0) from by rw [sL_go hkl HY.out]; congr 1; show rg l m i (x, wt) = _; unfold rg; dsimp only; rw [HC.out]; (try rw [HP.out]); (try rw [HN.out]); (repeat' split) <;> omega)
              have S9 := Lib.hid (show sL (ow l i) L (k + 1) = sL (ow l i) L k + (0) from by rw [sL_go hkl HY.out]; congr 1; show ow l i (x, wt) = _; unfold ow; dsimp only; rw [HC.out]; (try rw [HP.out]); (try rw [HN.out]); (repeat' split) <;> omega)
              generalize sL (lf l i) L k = a7 at *
              generalize sL (rg l m i) L k = a8 at *
              generalize sL (ow l i) L k = a9 at *
              go_wp2_with fail
              go_quiet (fail)
              go_wp2_with fail
              go_roundw
              case rel => exact ⟨k + 1, by omega, by simp, by rw [S7.out, Int.add_zero], by rw [S8.out, Int.add_zero], by rw [S9.out, Int.add_zero], by (repeat' (first | (with_reducible exact Below.refl _ _) | (with_reducible assumption) | (with_reducible refine Below.drew ?_) | (with_reducible refine below_drewN ?_ _) | (with_reducible refine Below.setCell ?_ ?_ _) | (with_reducible refine Below.alloc ?_ ?_ _) | go_size | omega))⟩
              case measure => simp [intOf]; omega
          · obtain rfl : k = L.length := by omega
            have E1 := Lib.hid (show rnum l m L i = sL (ow l i) L L.length * Wb l i * Wn l m i + sL (lf l i) L L.length * Wn l m i + sL (rg l m i) L L.length * Wb l i from rfl)
            have E2 := Lib.hid (show rden l m i = Wb l i * Wn l m i from rfl)
            rw [W1.out, W2.out] at E1 E2
            try simp only [Int.mul_one, Int.one_mul] at E1
            try simp only [Int.mul_one, Int.one_mul] at E2
            generalize sL (lf l i) L L.length = r7 at *
            generalize sL (rg l m i) L L.length = r8 at *
            generalize sL (ow l i) L L.length = r9 at *
            obtain ⟨m1', m2'⟩ := mul_bd (show -100000000 ≤ r9 by omega) (show r9 ≤ 100000000 by omega) (show -40000 ≤ C - P by omega) (show C - P ≤ 40000 by omega)
            obtain ⟨m3', m4'⟩ := mul_bd (show -4000000000000 ≤ r8 by omega) (show r8 ≤ 4000000000000 by omega) (show -40000 ≤ C - P by omega) (show C - P ≤ 40000 by omega)
            have CLo := Lib.hid (fun u => lowest_any (r9 * (C - P) + r7 + r8 * (C - P)) (C - P) u (by omega) (by omega) (by omega) (by omega))
            have F1 := Lib.hid (show redN (r9 * (C - P) + r7 + r8 * (C - P)) (C - P) = rfN l m L i by unfold rfN; rw [E1.out, E2.out])
            have F2 := Lib.hid (show redD (r9 * (C - P) + r7 + r8 * (C - P)) (C - P) = rfD l m L i by unfold rfD; rw [E1.out, E2.out])
            rw [F1.out, F2.out] at CLo
            clear E1 E2 F1 F2 W1 W2
            go_wp2_with fail
            refine (CLo.out _).mono ?_
            rintro e w3 ⟨rfl, h⟩
            have B3 : Below w.heap.size w w3 := below_via (below_via hB hB2) (below_via (by (repeat' (first | (with_reducible exact Below.refl _ _) | (with_reducible assumption) | (with_reducible refine Below.drew ?_) | (with_reducible refine below_drewN ?_ _) | (with_reducible refine Below.setCell ?_ ?_ _) | (with_reducible refine Below.alloc ?_ ?_ _) | go_size | omega))) h)
            have U3 : Below u.heap.size u w3 := below_via hB2 (below_via (by (repeat' (first | (with_reducible exact Below.refl _ _) | (with_reducible assumption) | (with_reducible refine Below.drew ?_) | (with_reducible refine below_drewN ?_ _) | (with_reducible refine Below.setCell ?_ ?_ _) | (with_reducible refine Below.alloc ?_ ?_ _) | go_size | omega))) h)
            have O3 := Lib.hid (owns_keep HO.out U3)
            have z3 := U3.size
            have z3w := B3.size
            have BS := Lib.hid (brl_snoc (rfN l m L) (rfD l m L) i)
            clear h CLo HO
            go_wp2_with (at_builtin; refine wpList_append_lies _ rfl _ _ 50 rfl w.heap.size 63 i0 _ 2 16 Try.underlying50 hi0 hz0 hz1 hz2 rfl (by omega) _ i _ rfl (O3.out.alloc _) ⟨w3.heap.size, 0, none⟩ 1 1 [.int .i64 (rfN l m L i), .int .i64 (rfD l m L i)] rfl rfl (World.news_of_block (heap_alloc_new w3 _)) (by simp [Value.oneCell']) (by omega) (by unfold maxLen; omega) (by omega) (by have := B3.size; simp; omega) _ rfl ?_; intro g7 cg7 w7 hown hgrow hat hlt)
            rw [BS.out] at hown
            have O7 := Lib.hid hown
            have B7 : Below w.heap.size w w7 := Below.grown (by (repeat' (first | (with_reducible exact Below.refl _ _) | (with_reducible assumption) | (with_reducible refine Below.drew ?_) | (with_reducible refine below_drewN ?_ _) | (with_reducible refine Below.setCell ?_ ?_ _) | (with_reducible refine Below.alloc ?_ ?_ _) | go_size | omega))) hgrow (by have := B3.size; simp; omega) (fun j e => (O3.out.lt _ e).1)
            clear hown hgrow hat BS
            go_wp2_with fail
            go_roundw
            case rel => exact ⟨i + 1, by omega, by simp, O7.out, B7⟩
            case measure => simp [intOf]; omega
    · obtain rfl : i = m + 1 := by omega
      go_wp2_with fail
      go_ret
      exact ⟨⟨_, rfl, HO.out⟩, hB⟩
end Go.Proofs.Ytahfliboanphkaa
