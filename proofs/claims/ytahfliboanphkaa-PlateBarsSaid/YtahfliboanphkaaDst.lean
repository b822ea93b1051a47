/-
  The loads of bars: plate.Distribute.
-/
import Derived.Test.YtahfliboanphkaaBm
import Derived.StillTailTactics
import Derived.Deep.DeepCutAuto
namespace Go.Proofs.Ytahfliboanphkaa
open Go.RowKit
attribute [local go_sem ↓] Go.wp_at_zero Go.wp_at_succ
theorem ownB_set {w : World} {b n : Nat} {e : TypeId} {z : Nat} {v : Value} {xs : List Value} (h : w.ownsRow b e z v n xs) (g off : Nat) (u : Value) (hg : g < b) : (w.setCell ⟨g, off, none⟩ u).ownsRow b e z v n xs :=
  h.kept (grown_setCell w g off u) (by
    cases hv : v.ownBlock with
    | none => exact .inl rfl
    | some k => right; have := (h.lt k hv).1; intro e; cases e; omega)
theorem LdRows.set {l : List Int} {m base g : Nat} {L : List (Int × Int)} {V : Nat → Value} {w : World} (h : LdRows l m base g L V w) (g' off : Nat) (u : Value) (hg : g' < base) : LdRows l m base g L V (w.setCell ⟨g', off, none⟩ u) :=
  ⟨fun i hi => ⟨ownB_set (h.1 i hi).1 g' off u hg, (h.1 i hi).2⟩, h.2⟩
theorem liUpB {w w' : World} {sv : Value} {L : List (Int × Int)} (h : LoadsIn w.heap.size w sv L) (hb : Below w.heap.size w w') : LoadsIn w'.heap.size w' sv L := by
  rcases h.below hb with h | ⟨b, o, c, e, hlt, hc⟩
  · exact .inl h
  · exact .inr ⟨b, o, c, e, Nat.lt_of_lt_of_le hlt hb.size, hc⟩
theorem loadsIn_own {w : World} {base cV : Nat} {aV : Option Addr} {P : List (Int × Int)} (h : w.ownsRow base 64 2 (.slice aV P.length cV) P.length (ldc P)) : LoadsIn w.heap.size w (.slice aV P.length cV) P := by
  rcases h.2 with ⟨h0, h1⟩ | ⟨g, cap, cur, h0, h1, h2, h3⟩
  · exact .inl ⟨h0, List.length_eq_zero_iff.1 h1⟩
  · cases h0
    exact .inr ⟨g, 0, cV, rfl, (Array.getElem?_eq_some_iff.1 h2).1, ldAt_row h (Array.getElem?_eq_some_iff.1 h2).1⟩
theorem reactV (A B : Int) (P : List (Int × Int)) (aV : Option Addr) (cV : Nat) (w : World) (hw : Wid A B) (ho : okY A B P) (hp : LoadsIn w.heap.size w (.slice aV P.length cV) P) :
    Calls Try.prog 56 #[lad A B 0 (.slice aV P.length cV)] w fun e w' => e = .returned (.tuple #[.int .i64 (sL (fA B) P P.length), .int .i64 (sL (fB A) P P.length)]) ∧ Below w.heap.size w w' := by
  have h := callsIn_wide.1 (reactions_in Fence.wide 3 trivial trivial trivial rfl (by omega) A B 0 aV P.length cV P (by have := ho.1; omega) w hp)
  rw [sumA_eq hw ho, sumB_eq hw ho] at h
  exact h
set_option maxRecDepth 100000 in
set_option maxHeartbeats 800000 in
theorem addedB_any (a b c d : Int) (w : World) (a0 : -4000000000000 ≤ a) (a1 : a ≤ 4000000000000) (b0 : 1 ≤ b) (b1 : b ≤ 100000) (c0 : -4000000000000 ≤ c) (c1 : c ≤ 4000000000000) (d0 : 1 ≤ d) (d1 : d ≤ 100000) :
    Calls Try.prog 57 #[.agg #[.int .i64 a, .int .i64 b], .agg #[.int .i64 c, .int .i64 d]] w fun e w' => e = .returned (.agg #[.int .i64 (redN (a * d + c * b) (b * d)), .int .i64 (redD (a * d + c * b) (b * d))]) ∧ Below w.heap.size w w' := by
  obtain ⟨m0, m1⟩ := mul_bd (show -4000000000000 ≤ a by omega) a1 (show -100000 ≤ d by omega) d1
  obtain ⟨m2, m3⟩ := mul_bd (show -4000000000000 ≤ c by omega) c1 (show -100000 ≤ b by omega) b1
  have m4 : 1 ≤ b * d := by have := Int.mul_le_mul b0 d0 (by omega) (by omega); omega
  obtain ⟨-, m5⟩ := mul_bd (show -100000 ≤ b by omega) b1 (show -100000 ≤ d by omega) d1
  have CR := Lib.hid (fun u => reduced_any (a * d + c * b) (b * d) u (by omega) (by omega) m4 (by omega))
  go_enter Try.func57, Try.ntmps57
  go_wp2_with fail
  refine (CR.out _).mono ?_
  rintro e w2 ⟨rfl, h2⟩
  have B2 : Below w.heap.size w w2 := below_via (by (repeat' (first | (with_reducible exact Below.refl _ _) | (with_reducible assumption) | (with_reducible refine Below.drew ?_) | (with_reducible refine below_drewN ?_ _) | (with_reducible refine Below.setCell ?_ ?_ _) | (with_reducible refine Below.alloc ?_ ?_ _) | go_size | omega))) h2
  have z2 := h2.size
  simp at z2
  have R2 := Lib.hid ((Box.new ((w.alloc (.cells #[.int .i64 a, .int .i64 b] 63)).alloc (.cells #[.int .i64 c, .int .i64 d] 63)) #[.int .i64 0, .int .i64 0] 63 (n := w.heap.size + 1 + 1) (by simp)).keep h2)
  clear h2 CR
  obtain ⟨r0, r1, f0, f1⟩ := R2.out.two
  have lr := R2.out.lt
  go_wp2_with fail
  clear r0 r1 f0 f1
  have RV : Box ((w2.setCell ⟨w.heap.size + 1 + 1, 0, none⟩ (.int .i64 (redN (a * d + c * b) (b * d)))).setCell ⟨w.heap.size + 1 + 1, 1, none⟩ (.int .i64 (redD (a * d + c * b) (b * d)))) (w.heap.size + 1 + 1) #[.int .i64 (redN (a * d + c * b) (b * d)), .int .i64 (redD (a * d + c * b) (b * d))] 63 := ((R2.out.set 0 _).set 1 _)
  have BV : Below w.heap.size w ((w2.setCell ⟨w.heap.size + 1 + 1, 0, none⟩ (.int .i64 (redN (a * d + c * b) (b * d)))).setCell ⟨w.heap.size + 1 + 1, 1, none⟩ (.int .i64 (redD (a * d + c * b) (b * d)))) := by (repeat' (first | (with_reducible exact Below.refl _ _) | (with_reducible assumption) | (with_reducible refine Below.drew ?_) | (with_reducible refine below_drewN ?_ _) | (with_reducible refine Below.setCell ?_ ?_ _) | (with_reducible refine Below.alloc ?_ ?_ _) | go_size | omega))
  generalize ((w2.setCell ⟨w.heap.size + 1 + 1, 0, none⟩ (.int .i64 (redN (a * d + c * b) (b * d)))).setCell ⟨w.heap.size + 1 + 1, 1, none⟩ (.int .i64 (redD (a * d + c * b) (b * d)))) = v at *
  have s0 := RV.cell 0
  have s1 := RV.cell 1
  simp at s0 s1
  go_wp2_with fail
  refine bodyPost_ret (v := .agg #[.int .i64 (redN (a * d + c * b) (b * d)), .int .i64 (redD (a * d + c * b) (b * d))]) (by simp [results, Try.results57, go_sem, s0, s1]) rfl ⟨rfl, BV⟩
/-- the bars' fractions: the first k are there -/
def brv (N D : Nat → Int) (k j : Nat) : Value := if j / 2 < k then (if j % 2 = 0 then .int .i64 (N (j / 2)) else .int .i64 (D (j / 2))) else .int .i64 0
def brl (N D : Nat → Int) (k n : Nat) : List Value := (List.range (n * 2)).map (brv N D k)
theorem brl_get (N D : Nat → Int) (k n j : Nat) (h : j < n * 2) : (brl N D k n)[j]? = some (brv N D k j) := by
  unfold brl; rw [List.getElem?_map, List.getElem?_range h]; rfl
theorem brl_set (N D : Nat → Int) (k n : Nat) (x y : Int) (hx : x = N k) (hy : y = D k) : ((brl N D k n).set (k * 2) (.int .i64 x)).set (k * 2 + 1) (.int .i64 y) = brl N D (k + 1) n := by
  unfold brl
  rw [range_set, range_set]
  congr 1
  funext j
  unfold brv
  by_cases h1 : j = k * 2 + 1
  · subst h1; simp only [if_true]; rw [if_pos (by omega), if_neg (by omega), show (k * 2 + 1) / 2 = k by omega, hy]
  · rw [if_neg h1]
    by_cases h0 : j = k * 2
    · subst h0; simp only [if_true]; rw [if_pos (by omega), if_pos (by omega), show k * 2 / 2 = k by omega, hx]
    · rw [if_neg h0]
      by_cases ha : j / 2 < k
      · have hb : j / 2 < k + 1 := by omega
        simp [ha, hb]
      · have hb : ¬ j / 2 < k + 1 := by omega
        simp [ha, hb]
theorem brl_made (N D : Nat → Int) (n : Nat) : (madeCells #[.int .i64 0, .int .i64 0] (n * 2)).toList = brl N D 0 n := by
  unfold madeCells brl
  simp only [Array.toList_map, Array.toList_range]
  apply List.map_congr_left
  intro j _
  unfold brv
  have : j % 2 = 0 ∨ j % 2 = 1 := by omega
  rcases this with h | h <;> simp [h]
theorem infoF : (Try.prog.info? 63).map (fun i => (i.zero, i.size, i.bytes)) = some (some (.agg #[.int .i64 0, .int .i64 0]), 2, 16) := by kernel_rfl
def DsRel (l : List Int) (m : Nat) (L : List (Int × Int)) (w : World) (B gb hb g : Nat) (V : Nat → Value) (v : Value) (wr : World) : Prop :=
  ∃ k : Nat, k ≤ m ∧ v = .int .i64 (k : Int) ∧ wr.ownsRow w.heap.size 63 2 (.slice (some ⟨gb, 0, none⟩) (m + 1) (m + 1)) (m + 1) (brl (baN l L m) (baD l L m) k (m + 1)) ∧ Box wr hb #[.int .i64 (beN l L k), .int .i64 (beD l L k)] 63 ∧ wr.ownsRow B 103 4 (.slice (some ⟨g, 0, none⟩) m m) m (stl l m V m) ∧ LdRows l m B g L V wr ∧ Below w.heap.size w wr
def DsPost (l : List Int) (m : Nat) (L : List (Int × Int)) (w : World) (e : Ending) (w' : World) : Prop :=
  (∃ gb : Nat, e = .returned (.tuple #[.slice (some ⟨gb, 0, none⟩) (m + 1) (m + 1), .int .i64 0]) ∧ w'.ownsRow w.heap.size 63 2 (.slice (some ⟨gb, 0, none⟩) (m + 1) (m + 1)) (m + 1) (brl (baN l L m) (baD l L m) (m + 1) (m + 1))) ∧ Below w.heap.size w w'
set_option maxRecDepth 100000 in
set_option maxHeartbeats 6400000 in
theorem distOk_any (l : List Int) (m b o cap : Nat) (hlm : l.length = m + 1) (hb : brE l = 0) (hcap : l.length ≤ cap) (L : List (Int × Int)) (aL : Option Addr) (capL : Nat) (w : World) (hbl : b < w.heap.size) (hc : ∀ j (h : j < l.length), w.cell? ⟨b, o + j, none⟩ = some (.int .i64 l[j])) (hL : LdAt w aL L) (hLk : chkL (l.getD 0 0) (l.getD m 0) L = 0) :
    Calls Try.prog 24 #[.slice (some ⟨b, o, none⟩) (m + 1) cap, .slice aL L.length capL] w (DsPost l m L w) := by
  obtain ⟨i0, hi0, hz0, hz1, hz2⟩ := info_parts infoF
  have hB := okB_of hb
  have hY := okY_of hLk
  have m1 : 1 ≤ m := by have := hB.1; omega
  have m2 : m ≤ 19 := by have := hB.1; omega
  have hLl := hY.1
  have IA : InAt w (some ⟨b, o, none⟩) l := .inr ⟨b, o, rfl, hbl, hc⟩
  have CK := Lib.hid (fun (u : World) (h : InAt u (some ⟨b, o, none⟩) l) => chkBars_any l _ cap u (by omega) h)
  rw [hb, hlm] at CK
  have CL := Lib.hid (fun (u : World) (h : LdAt u aL L) => chkL_any (l.getD 0 0) (l.getD m 0) L aL capL u (by omega) h)
  rw [hLk] at CL
  have CS := Lib.hid (fun (u : World) (hu : Below w.heap.size w u) => stretches_any l m b o cap hlm m1 (by omega) hcap L aL capL u (Nat.lt_of_lt_of_le hbl hu.size) (fun j hj => ((bcell hu).1 b _ hbl).trans (hc j hj)) (hL.keep hu) (by omega) (fun y hy => by
    obtain ⟨s, e, s0, -⟩ := sIdx_spec hlm hB (hY.2 y hy).1.1 (hY.2 y hy).1.2
    rw [e]; omega))
  have C0 := Lib.hid (show w.cell? ⟨b, o, none⟩ = some (.int .i64 (l.getD 0 0)) by have := hc 0 (by omega); rw [List.getD_eq_getElem?_getD, List.getElem?_eq_getElem (by omega)]; simpa using this)
  have C1 := Lib.hid (show w.cell? ⟨b, o + m, none⟩ = some (.int .i64 (l.getD m 0)) by have := hc m (by omega); rw [List.getD_eq_getElem?_getD, List.getElem?_eq_getElem (by omega)]; simpa using this)
  have HLM := Lib.hid (And.intro hlm (And.intro hB hY))
  have HL := Lib.hid hL; have HIA := Lib.hid IA
  clear hb hLk hc hL IA hlm hB hY
  go_enter Try.func24, Try.ntmps24
  go_wp2_with fail
  refine (CK.out _ HIA.out).mono ?_
  rintro e w1 ⟨rfl, h⟩
  have B1 : Below w.heap.size w w1 := h
  clear h CK
  have q0 : (0 : Int) < (m : Int) + 1 := by omega
  have q1 : (m : Int) + 1 - 1 = (m : Int) := by omega
  have q2 : IntKind.i64.wrap ((m : Int) + 1 - 1) = (m : Int) := by rw [q1]; exact IntWalk.i64_in _ (by omega)
  have q3 : (0 : Int) ≤ (m : Int) := by omega
  have q4 : (m : Int) < (m : Int) + 1 := by omega
  clear q1
  have q5 : IntKind.i64.wrap (m : Int) = (m : Int) := IntWalk.i64_in _ (by omega)
  go_upto_region 4 with fail
  have K := Lib.hid (fun (w' : World) (hw : Below w1.heap.size w1 w') => show (w'.cell? ⟨b, o, none⟩ = some (.int .i64 (l.getD 0 0)) ∧ w'.cell? ⟨b, o + m, none⟩ = some (.int .i64 (l.getD m 0))) from ⟨((bcell (below_via B1 hw)).1 b _ hbl).trans C0.out, ((bcell (below_via B1 hw)).1 b _ hbl).trans C1.out⟩)
  go_region_held3 (fun w' => (w'.cell? ⟨b, o, none⟩ = some (.int .i64 (l.getD 0 0)) ∧ w'.cell? ⟨b, o + m, none⟩ = some (.int .i64 (l.getD m 0))))
    ((refine K.out _ ?_; (repeat' (first | (with_reducible exact Below.refl _ _) | (with_reducible assumption) | (with_reducible refine Below.drew ?_) | (with_reducible refine below_drewN ?_ _) | (with_reducible refine Below.setCell ?_ ?_ _) | (with_reducible refine Below.alloc ?_ ?_ _) | go_size | omega)); done))
    (first | (go_at_call 54; refine (CL.out _ (HL.out.keep (below_via B1 (by (repeat' (first | (with_reducible exact Below.refl _ _) | (with_reducible assumption) | (with_reducible refine Below.drew ?_) | (with_reducible refine below_drewN ?_ _) | (with_reducible refine Below.setCell ?_ ?_ _) | (with_reducible refine Below.alloc ?_ ?_ _) | go_size | omega)))))).mono ?_; rintro e w2 ⟨rfl, h2⟩; have hB2 : Below w1.heap.size w1 w2 := below_via (by (repeat' (first | (with_reducible exact Below.refl _ _) | (with_reducible assumption) | (with_reducible refine Below.drew ?_) | (with_reducible refine below_drewN ?_ _) | (with_reducible refine Below.setCell ?_ ?_ _) | (with_reducible refine Below.alloc ?_ ?_ _) | go_size | omega))) h2; clear h2; have hz2' := hB2.size; obtain ⟨k0, k1⟩ := K.out w2 hB2))
  all_goals
    have B2 : Below w.heap.size w w2 := below_via B1 hB2
    clear k0 k1 K CL
    go_wp2_with (at_make; refine wpList_make_full w2 rfl _ _ 50 rfl w.heap.size 63 i0 _ 2 Try.underlying50 hi0 hz0 hz1 .i64 .i64 ((m : Int) + 1) ((m : Int) + 1) (m + 1) rfl rfl (by simp) (by simp) (by rw [hz2]; omega) (by unfold maxLen; omega) B2.size ?_; intro w3 hown3 hgrow3)
    have O3 := Lib.hid (by have h := hown3; rw [show (Value.agg #[.int .i64 0, .int .i64 0]).cells = #[.int .i64 0, .int .i64 0] from rfl, brl_made (baN l L m) (baD l L m) (m + 1)] at h; exact h)
    have B3 : Below w.heap.size w w3 := Below.grown B2 hgrow3 B2.size (fun k e => by cases e)
    have gb0 : w.heap.size ≤ w2.heap.size := B2.size
    have gb1 : w2.heap.size < w3.heap.size := (hown3.lt w2.heap.size rfl).2
    clear hown3 hgrow3
    generalize w2.heap.size = gb at *
    refine (CS.out _ (by (repeat' (first | (with_reducible exact Below.refl _ _) | (with_reducible assumption) | (with_reducible refine Below.drew ?_) | (with_reducible refine below_drewN ?_ _) | (with_reducible refine Below.setCell ?_ ?_ _) | (with_reducible refine Below.alloc ?_ ?_ _) | go_size | omega)))).mono ?_
    intro e w5 hst
    obtain ⟨⟨g, V, rfl, ho5, hr5⟩, h⟩ := hst
    have B5 : Below w.heap.size w w5 := below_via (by (repeat' (first | (with_reducible exact Below.refl _ _) | (with_reducible assumption) | (with_reducible refine Below.drew ?_) | (with_reducible refine below_drewN ?_ _) | (with_reducible refine Below.setCell ?_ ?_ _) | (with_reducible refine Below.alloc ?_ ?_ _) | go_size | omega))) h
    have H5 := Lib.hid (Box.keep (Box.new w3 #[.int .i64 0, .int .i64 1] 63 (n := w3.heap.size) rfl) h)
    have O5 := Lib.hid (owns_keep (O3.out.alloc (.cells #[.int .i64 0, .int .i64 1] 63)) h)
    have S5 := Lib.hid ho5; have R5 := Lib.hid hr5
    have bas : w3.heap.size < (w3.alloc (.cells #[.int .i64 0, .int .i64 1] 63)).heap.size := by simp
    have z5 := h.size
    clear h ho5 hr5 O3 CS
    generalize (w3.alloc (.cells #[.int .i64 0, .int .i64 1] 63)).heap.size = BS at *
    generalize w3.heap.size = hb at *
    go_wp2_with fail
    go_loopw [41] (DsRel l m L w BS gb hb g V) (fun i _ => m - (intOf i).toNat)
    case atStart => exact ⟨0, by omega, rfl, O5.out, H5.out, S5.out, R5.out, B5⟩
    case round =>
      obtain ⟨k, hk, rfl, ho, hbx, hs, hr, hB⟩ := hrel
      have HO := Lib.hid ho; have HH := Lib.hid hbx; have HS := Lib.hid hs; have HR := Lib.hid hr
      clear ho hbx hs hr
      obtain ⟨u, rfl⟩ : ∃ x : World, x = wr := ⟨_, rfl⟩
      by_cases hkm : k < m
      · have hlm := HLM.out.1
        obtain ⟨x0, x1, x2, x3⟩ := And.intro (HS.out.cellAt (k * 4) (by omega)) (And.intro (HS.out.cellAt (k * 4 + 1) (by omega)) (And.intro (HS.out.cellAt (k * 4 + 2) (by omega)) (HS.out.cellAt (k * 4 + 3) (by omega))))
        rw [stl_get _ _ _ _ _ (by omega)] at x0 x1 x2 x3
        rw [show stv l m V (k * 4) = .int .i64 (l.getD k 0) by unfold stv; rw [if_neg (by omega), if_pos (by omega), show k * 4 / 4 = k by omega]] at x0
        rw [show stv l m V (k * 4 + 1) = .int .i64 (l.getD (k + 1) 0) by unfold stv; rw [if_neg (by omega), if_neg (by omega), if_pos (by omega), show (k * 4 + 1) / 4 = k by omega]] at x1
        rw [show stv l m V (k * 4 + 2) = .int .i64 0 by unfold stv; rw [if_neg (by omega), if_neg (by omega), if_neg (by omega)]] at x2
        rw [show stv l m V (k * 4 + 3) = V k by unfold stv; rw [if_pos (by omega), show (k * 4 + 3) / 4 = k by omega]] at x3
        obtain ⟨aV, cV, hV⟩ := owns_form (HR.out.1 k hkm).1
        rw [hV] at x3
        have HVr := Lib.hid (by have h := (HR.out.1 k hkm).1; rw [hV] at h; exact loadsIn_own h)
        have hw := okB_wid hlm HLM.out.2.1 k hkm
        have hop := part_ok hlm HLM.out.2.1 HLM.out.2.2 k hkm
        have hbd := RA_bd hlm HLM.out.2.1 HLM.out.2.2 k hkm
        have hbe := be_bd hlm HLM.out.2.1 HLM.out.2.2 k hk
        have CR := Lib.hid (fun (u : World) (h : LoadsIn u.heap.size u (.slice aV (part l L k).length cV) (part l L k)) => reactV (l.getD k 0) (l.getD (k + 1) 0) (part l L k) aV cV u hw hop h)
        have rA := red_bd hbd.2.2.1 hbd.1.1 hbd.1.2
        have CA := Lib.hid (fun u => over_any (l.getD k 0) (l.getD (k + 1) 0) 0 (RAi l L k) aV (part l L k).length cV u hw.1 hw.2.1 hw.2.2 (by omega) (by omega))
        have CB := Lib.hid (fun u => over_any (l.getD k 0) (l.getD (k + 1) 0) 0 (RBi l L k) aV (part l L k).length cV u hw.1 hw.2.1 hw.2.2 (by omega) (by omega))
        have CD := Lib.hid (fun u => addedB_any (beN l L k) (beD l L k) (redN (RAi l L k) (Wi l k)) (redD (RAi l L k) (Wi l k)) u (by omega) (by omega) (by omega) (by omega) (by omega) (by omega) (by omega) (by omega))
        have E1 := Lib.hid (show redN (beN l L k * redD (RAi l L k) (Wi l k) + redN (RAi l L k) (Wi l k) * beD l L k) (beD l L k * redD (RAi l L k) (Wi l k)) = baN l L m k by unfold baN; rw [if_pos hkm])
        have E2 := Lib.hid (show redD (beN l L k * redD (RAi l L k) (Wi l k) + redN (RAi l L k) (Wi l k) * beD l L k) (beD l L k * redD (RAi l L k) (Wi l k)) = baD l L m k by unfold baD; rw [if_pos hkm])
        rw [E1.out, E2.out] at CD
        rw [show sL (fA (l.getD (k + 1) 0)) (part l L k) (part l L k).length = RAi l L k from rfl, show sL (fB (l.getD k 0)) (part l L k) (part l L k).length = RBi l L k from rfl] at CR
        rw [show l.getD (k + 1) 0 - l.getD k 0 = Wi l k from rfl] at CA CB
        have F1 := Lib.hid (show redN (RBi l L k) (Wi l k) = beN l L (k + 1) from rfl)
        have F2 := Lib.hid (show redD (RBi l L k) (Wi l k) = beD l L (k + 1) from rfl)
        rw [F1.out, F2.out] at CB
        have SB := Lib.hid (brl_set (baN l L m) (baD l L m) k (m + 1) _ _ rfl rfl)
        clear hw hop hbd hbe rA hlm hV E1 E2 F1 F2
        generalize redN (RAi l L k) (Wi l k) = rn at *
        generalize redD (RAi l L k) (Wi l k) = rd at *
        generalize RAi l L k = ra at *
        generalize RBi l L k = rb at *
        generalize l.getD k 0 = A at *
        generalize l.getD (k + 1) 0 = B' at *
        generalize beN l L k = bn at *
        generalize beD l L k = bd at *
        generalize hbn' : beN l L (k + 1) = bn' at CB
        generalize hbd' : beD l L (k + 1) = bd' at CB
        have F1 := Lib.hid hbn'; have F2 := Lib.hid hbd'
        clear hbn' hbd'
        have i0' : (0 : Int) ≤ (k : Int) := by omega
        have i1' : (k : Int) < (m : Int) := by omega
        have i2' : (k : Int) < (m : Int) + 1 := by omega
        have lg := (HS.out.lt g rfl).2
        go_wp2_with fail
        have TB := Lib.hid (Box.new u #[.int .i64 A, .int .i64 B', .int .i64 0, .slice aV (part l L k).length cV] 103 (n := u.heap.size) rfl)
        have BA : Below u.heap.size u (u.alloc (.cells #[.int .i64 A, .int .i64 B', .int .i64 0, .slice aV (part l L k).length cV] 103)) := by (repeat' (first | (with_reducible exact Below.refl _ _) | (with_reducible assumption) | (with_reducible refine Below.drew ?_) | (with_reducible refine below_drewN ?_ _) | (with_reducible refine Below.setCell ?_ ?_ _) | (with_reducible refine Below.alloc ?_ ?_ _) | go_size | omega))
        refine (CR.out _ (liUpB HVr.out BA)).mono ?_
        rintro e w6 ⟨rfl, h⟩
        have U6 : Below u.heap.size u w6 := below_via BA h
        have B6 : Below w.heap.size w w6 := below_via hB U6
        have T6 := Lib.hid (TB.out.keep h); have O6 := Lib.hid (owns_keep HO.out U6); have H6 := Lib.hid (HH.out.keep U6); have S6 := Lib.hid (owns_keep HS.out U6); have R6 := Lib.hid (LdRows.keep HR.out U6)
        have z6 := U6.size
        have tb0 : hb < u.heap.size := HH.out.lt
        clear h CR HVr TB BA HO HH HS HR x0 x1 x2 x3 U6
        generalize u.heap.size = tb at *
        have lt6 := T6.out.lt; have lh6 := H6.out.lt
        go_wp2_with fail
        have K := Lib.hid (fun (w' : World) (hw : Below w6.heap.size w6 w') => show ((w'.cell? ⟨hb, 0, none⟩ = some (.int .i64 bn) ∧ w'.cell? ⟨hb, 1, none⟩ = some (.int .i64 bd)) ∧ (w'.cell? ⟨tb, 0, none⟩ = some (.int .i64 A) ∧ w'.cell? ⟨tb, 1, none⟩ = some (.int .i64 B') ∧ w'.cell? ⟨tb, 2, none⟩ = some (.int .i64 0) ∧ w'.cell? ⟨tb, 3, none⟩ = some (.slice aV (part l L k).length cV))) from ⟨⟨(H6.out.keep hw).cell 0, (H6.out.keep hw).cell 1⟩, (T6.out.keep hw).cell 0, (T6.out.keep hw).cell 1, (T6.out.keep hw).cell 2, (T6.out.keep hw).cell 3⟩)
        have hne1 : gb ≠ hb := by omega
        have hne2 : gb ≠ tb := by omega
        have hne3 : hb ≠ gb := by omega
        have hne4 : tb ≠ gb := by omega
        go_region_held3 (fun w' => (w'.cell? ⟨hb, 0, none⟩ = some (.int .i64 bn) ∧ w'.cell? ⟨hb, 1, none⟩ = some (.int .i64 bd)) ∧ (w'.cell? ⟨tb, 0, none⟩ = some (.int .i64 A) ∧ w'.cell? ⟨tb, 1, none⟩ = some (.int .i64 B') ∧ w'.cell? ⟨tb, 2, none⟩ = some (.int .i64 0) ∧ w'.cell? ⟨tb, 3, none⟩ = some (.slice aV (part l L k).length cV)))
          (first | (refine K.out _ ?_; (repeat' (first | (with_reducible exact Below.refl _ _) | (with_reducible assumption) | (with_reducible refine Below.drew ?_) | (with_reducible refine below_drewN ?_ _) | (with_reducible refine Below.setCell ?_ ?_ _) | (with_reducible refine Below.alloc ?_ ?_ _) | go_size | omega)); done) | (refine ⟨⟨?_, ?_⟩, ?_, ?_, ?_, ?_⟩ <;> (repeat (refine (World.cell?_setCell_far _ _ _ _ (by simp; omega)).trans ?_)) <;> assumption))
          (first | (go_at_call 58; (with_reducible refine (CA.out _).mono ?_); rintro e w7 ⟨rfl, h7⟩; have hB7 : Below w6.heap.size w6 w7 := below_via (by (repeat' (first | (with_reducible exact Below.refl _ _) | (with_reducible assumption) | (with_reducible refine Below.drew ?_) | (with_reducible refine below_drewN ?_ _) | (with_reducible refine Below.setCell ?_ ?_ _) | (with_reducible refine Below.alloc ?_ ?_ _) | go_size | omega))) h7; clear h7; have hz7 := hB7.size; obtain ⟨⟨k0, k1⟩, k2, k3, k4, k5⟩ := K.out w7 hB7) | (go_at_call 57; refine (CD.out _).mono ?_; rintro e w8 ⟨rfl, h8⟩; have hB8 : Below w6.heap.size w6 w8 := below_via (by (repeat' (first | (with_reducible exact Below.refl _ _) | (with_reducible assumption) | (with_reducible refine Below.drew ?_) | (with_reducible refine below_drewN ?_ _) | (with_reducible refine Below.setCell ?_ ?_ _) | (with_reducible refine Below.alloc ?_ ?_ _) | go_size | omega))) h8; clear h8; have hz8 := hB8.size; obtain ⟨⟨k0, k1⟩, k2, k3, k4, k5⟩ := K.out w8 hB8; have O8 := Lib.hid (owns_keep O6.out hB8); have s0 := O8.out.cellAt (k * 2) (by omega); have s1 := O8.out.cellAt (k * 2 + 1) (by omega); rw [brl_get _ _ _ _ _ (by omega)] at s0 s1; have f0 := O8.out.frozenAt (k * 2); have f1 := O8.out.frozenAt (k * 2 + 1); have lgb := (O8.out.lt gb rfl).2))
        all_goals
          have OB := Lib.hid (by have h := ((O8.out.stored (k * 2) (.int .i64 (baN l L m k))).1.stored (k * 2 + 1) (.int .i64 (baD l L m k))).1; rw [SB.out] at h; exact h)
          have HB9 := Lib.hid (((H6.out.keep hB8).other ⟨gb, k * 2, none⟩ (.int .i64 (baN l L m k)) (by simp; omega)).other ⟨gb, k * 2 + 1, none⟩ (.int .i64 (baD l L m k)) (by simp; omega))
          have TB9 := Lib.hid (((T6.out.keep hB8).other ⟨gb, k * 2, none⟩ (.int .i64 (baN l L m k)) (by simp; omega)).other ⟨gb, k * 2 + 1, none⟩ (.int .i64 (baD l L m k)) (by simp; omega))
          have SB9 := Lib.hid (ownB_set (ownB_set (owns_keep S6.out hB8) gb (k * 2) (.int .i64 (baN l L m k)) (by omega)) gb (k * 2 + 1) (.int .i64 (baD l L m k)) (by omega))
          have RB9 := Lib.hid (((LdRows.keep R6.out hB8).set gb (k * 2) (.int .i64 (baN l L m k)) (by omega)).set gb (k * 2 + 1) (.int .i64 (baD l L m k)) (by omega))
          have B8 : Below w.heap.size w w8 := below_via B6 hB8
          have B9 : Below w.heap.size w ((w8.setCell ⟨gb, k * 2, none⟩ (.int .i64 (baN l L m k))).setCell ⟨gb, k * 2 + 1, none⟩ (.int .i64 (baD l L m k))) := by (repeat' (first | (with_reducible exact Below.refl _ _) | (with_reducible assumption) | (with_reducible refine Below.drew ?_) | (with_reducible refine below_drewN ?_ _) | (with_reducible refine Below.setCell ?_ ?_ _) | (with_reducible refine Below.alloc ?_ ?_ _) | go_size | omega))
          clear s0 s1 f0 f1 k0 k1 k2 k3 k4 k5 hB7 hB8 K O8 O6 H6 T6 S6 R6 CA CD SB B8
          generalize ((w8.setCell ⟨gb, k * 2, none⟩ (.int .i64 (baN l L m k))).setCell ⟨gb, k * 2 + 1, none⟩ (.int .i64 (baD l L m k))) = w9 at *
          obtain ⟨t0, t1, t2, t3, -⟩ := TB9.out.four
          have lt9 := TB9.out.lt
          go_wp2_with fail
          refine (CB.out _).mono ?_
          rintro e w10 ⟨rfl, h⟩
          have B10 : Below w.heap.size w w10 := below_via B9 h
          have O10 := Lib.hid (owns_keep OB.out h); have H10 := Lib.hid (HB9.out.keep h); have S10 := Lib.hid (owns_keep SB9.out h); have R10 := Lib.hid (LdRows.keep RB9.out h)
          have z10 := h.size
          clear h CB OB HB9 SB9 RB9 TB9 t0 t1 t2 t3 lt9
          obtain ⟨h0, h1, f0, f1⟩ := H10.out.two
          have lh := H10.out.lt
          go_wp2_with fail
          have OX := Lib.hid ((O10.out.kept (grown_setCell w10 hb 0 (.int .i64 bn')) (.inr (by simp [Value.ownBlock]; omega))).kept (grown_setCell _ hb 1 (.int .i64 bd')) (.inr (by simp [Value.ownBlock]; omega)))
          have HX := Lib.hid ((H10.out.set 0 (.int .i64 bn')).set 1 (.int .i64 bd'))
          have SX := Lib.hid (ownB_set (ownB_set S10.out hb 0 (.int .i64 bn') (by omega)) hb 1 (.int .i64 bd') (by omega))
          have RX := Lib.hid ((R10.out.set hb 0 (.int .i64 bn') (by omega)).set hb 1 (.int .i64 bd') (by omega))
          have BX : Below w.heap.size w ((w10.setCell ⟨hb, 0, none⟩ (.int .i64 bn')).setCell ⟨hb, 1, none⟩ (.int .i64 bd')) := by (repeat' (first | (with_reducible exact Below.refl _ _) | (with_reducible assumption) | (with_reducible refine Below.drew ?_) | (with_reducible refine below_drewN ?_ _) | (with_reducible refine Below.setCell ?_ ?_ _) | (with_reducible refine Below.alloc ?_ ?_ _) | go_size | omega))
          clear h0 h1 f0 f1
          generalize ((w10.setCell ⟨hb, 0, none⟩ (.int .i64 bn')).setCell ⟨hb, 1, none⟩ (.int .i64 bd')) = wX at *
          go_roundw
          case rel => exact ⟨k + 1, by omega, by simp, OX.out, by rw [F1.out, F2.out]; exact HX.out, SX.out, RX.out, BX⟩
          case measure => simp [intOf]; omega
      · obtain rfl : m = k := by omega
        have O9 := Lib.hid HO.out
        have E1 := Lib.hid (show beN l L m = baN l L m m by unfold baN; rw [if_neg (by omega)])
        have E2 := Lib.hid (show beD l L m = baD l L m m by unfold baD; rw [if_neg (by omega)])
        have SB := Lib.hid (brl_set (baN l L m) (baD l L m) m (m + 1) _ _ E1.out E2.out)
        generalize beN l L m = bn at *
        generalize beD l L m = bd at *
        obtain ⟨h0, h1, -⟩ := HH.out.two
        have lh := HH.out.lt
        have s0 := HO.out.cellAt (m * 2) (by omega); have s1 := HO.out.cellAt (m * 2 + 1) (by omega)
        rw [brl_get _ _ _ _ _ (by omega)] at s0 s1
        have f0 := HO.out.frozenAt (m * 2); have f1 := HO.out.frozenAt (m * 2 + 1)
        have lgb := (HO.out.lt gb rfl).2
        go_wp2_with fail
        have OB := Lib.hid (by have h := ((HO.out.stored (m * 2) (.int .i64 bn)).1.stored (m * 2 + 1) (.int .i64 bd)).1; rw [SB.out] at h; exact h)
        go_ret2
        exact ⟨⟨gb, rfl, OB.out⟩, by (repeat' (first | (with_reducible exact Below.refl _ _) | (with_reducible assumption) | (with_reducible refine Below.drew ?_) | (with_reducible refine below_drewN ?_ _) | (with_reducible refine Below.setCell ?_ ?_ _) | (with_reducible refine Below.alloc ?_ ?_ _) | go_size | omega))⟩
end Go.Proofs.Ytahfliboanphkaa
