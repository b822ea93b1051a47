/-
  Bars: the stretches between bars, with their loads.
-/
import Derived.Test.YtahfliboanphkaaStr
import Derived.StillTailTactics
import Derived.Deep.DeepCutAuto
import Derived.Deep.AppendLies
namespace Go.Proofs.Ytahfliboanphkaa
open Go.RowKit
attribute [local go_sem ↓] Go.wp_at_zero Go.wp_at_succ
def part (l : List Int) (L : List (Int × Int)) (i : Nat) : List (Int × Int) := L.filter fun y => sIdx l.tail y.1 == (i : Int)
theorem part_snoc_same (l : List Int) (L : List (Int × Int)) (y : Int × Int) (i : Nat) (h : sIdx l.tail y.1 = i) : part l (L ++ [y]) i = part l L i ++ [y] := by
  unfold part; rw [List.filter_append, List.filter_cons_of_pos (by simp [h])]; rfl
theorem part_snoc_other (l : List Int) (L : List (Int × Int)) (y : Int × Int) (i : Nat) (h : sIdx l.tail y.1 ≠ i) : part l (L ++ [y]) i = part l L i := by
  unfold part; rw [List.filter_append, List.filter_cons_of_neg (by simp [h])]; simp
theorem part_le (l : List Int) (L : List (Int × Int)) (i : Nat) : (part l L i).length ≤ L.length := List.length_filter_le _ _
def S1Rel (l : List Int) (m : Nat) (w : World) (sv : Value) (v : Value) (wr : World) : Prop :=
  ∃ k : Nat, k ≤ m ∧ v = .int .i64 (k : Int) ∧ wr.ownsRow w.heap.size 103 4 sv m (stl l k (fun _ => .slice none 0 0) m) ∧ Below w.heap.size w wr
def LdRows (l : List Int) (m base g : Nat) (L : List (Int × Int)) (V : Nat → Value) (w : World) : Prop :=
  (∀ i, i < m → w.ownsRow base 64 2 (V i) (part l L i).length (ldc (part l L i)) ∧ (V i).ownBlock ≠ some g) ∧ ∀ i j, i < m → j < m → i ≠ j → (V i).ownBlock = none ∨ (V i).ownBlock ≠ (V j).ownBlock
theorem LdRows.keep {l : List Int} {m base g : Nat} {L : List (Int × Int)} {V : Nat → Value} {w w' : World} (h : LdRows l m base g L V w) (hb : Below w.heap.size w w') : LdRows l m base g L V w' :=
  ⟨fun i hi => ⟨owns_keep (h.1 i hi).1 hb, (h.1 i hi).2⟩, h.2⟩
theorem grown_setCell (w : World) (g off : Nat) (u : Value) : w.grownBy (w.setCell ⟨g, off, none⟩ u) (some g) :=
  ⟨rfl, rfl, rfl, by simp, fun k _ hk => heap_setCell_other w ⟨g, off, none⟩ k u (fun e => hk (by simp [e]))⟩
theorem LdRows_step {l : List Int} {m base g jn g' n' cap' : Nat} {L : List (Int × Int)} {y : Int × Int} {V : Nat → Value} {wA w9 : World} {xs' : List Value} (HR : LdRows l m base g L V wA) (hjm : jn < m) (hix : sIdx l.tail y.1 = jn) (hgrow : wA.grownBy w9 (V jn).ownBlock)
    (hown : w9.ownsRow base 64 2 (.slice (some ⟨g', 0, none⟩) n' cap') n' xs') (hn : n' = (part l L jn).length + 1) (hxs : xs' = ldc (part l (L ++ [y]) jn)) (hat : (V jn).ownBlock = some g' ∨ g' = wA.heap.size) (hg : g < wA.heap.size) (u : Value) (off : Nat) :
    LdRows l m base g (L ++ [y]) (fun n => if n = jn then .slice (some ⟨g', 0, none⟩) n' cap' else V n) (w9.setCell ⟨g, off, none⟩ u) := by
  have hgg : g' ≠ g := by
    rcases hat with h | h
    · intro e; exact (HR.1 jn hjm).2 (by rw [h, e])
    · omega
  have hoth : ∀ i, i < m → i ≠ jn → (V i).ownBlock = none ∨ (V i).ownBlock ≠ some g' := fun i hi hne => by
    rcases hat with h | h
    · rw [← h]; exact HR.2 i jn hi hjm hne
    · right; intro e; have := ((HR.1 i hi).1.lt _ e).2; omega
  refine ⟨fun i hi => ?_, fun i j hi hj hij => ?_⟩
  · by_cases h : i = jn
    · subst h
      simp only [if_true]
      refine ⟨?_, by simp [Value.ownBlock]; exact hgg⟩
      have h1 := hown.kept (grown_setCell w9 g off u) (.inr (by simp [Value.ownBlock]; exact hgg))
      rw [show (part l (L ++ [y]) i).length = n' by rw [part_snoc_same l L y i hix, List.length_append, hn]; rfl, ← hxs]
      exact h1
    · simp only [if_neg h]
      refine ⟨?_, (HR.1 i hi).2⟩
      rw [part_snoc_other l L y i (by rw [hix]; omega)]
      exact ((HR.1 i hi).1.kept hgrow (HR.2 i jn hi hjm h)).kept (grown_setCell w9 g off u) (.inr (HR.1 i hi).2)
  · by_cases h : i = jn
    · have h' : j ≠ jn := fun e => hij (h.trans e.symm)
      simp only [if_pos h, if_neg h']
      rcases hoth j hj h' with e | e
      · right; rw [e]; simp [Value.ownBlock]
      · right; simp only [Value.ownBlock]; exact fun e' => e e'.symm
    · by_cases h' : j = jn
      · simp only [if_neg h, if_pos h']
        rcases hoth i hi h with e | e
        · exact .inl e
        · right; simp only [Value.ownBlock]; exact e
      · simp only [if_neg h, if_neg h']
        exact HR.2 i j hi hj hij
theorem ldc_snoc (A : List (Int × Int)) (y1 y2 : Int) : ldc (A ++ [(y1, y2)]) = ldc A ++ [.int .i64 y1, .int .i64 y2] := by
  unfold ldc; simp
def S2Rel (l : List Int) (m g : Nat) (L : List (Int × Int)) (w : World) (v : Value) (wr : World) : Prop :=
  ∃ (k : Nat) (V : Nat → Value), k ≤ L.length ∧ v = .int .i64 (k : Int) ∧ wr.ownsRow w.heap.size 103 4 (.slice (some ⟨g, 0, none⟩) m m) m (stl l m V m) ∧ LdRows l m w.heap.size g (L.take k) V wr ∧ Below w.heap.size w wr
def StrPost (l : List Int) (m : Nat) (L : List (Int × Int)) (w : World) (e : Ending) (w' : World) : Prop :=
  (∃ (g : Nat) (V : Nat → Value), e = .returned (.slice (some ⟨g, 0, none⟩) m m) ∧ w'.ownsRow w.heap.size 103 4 (.slice (some ⟨g, 0, none⟩) m m) m (stl l m V m) ∧ LdRows l m w.heap.size g L V w') ∧ Below w.heap.size w w'
set_option maxRecDepth 100000 in
set_option maxHeartbeats 3200000 in
theorem stretches_any (l : List Int) (m b o cap : Nat) (hlm : l.length = m + 1) (m1 : 1 ≤ m) (m2 : m ≤ 1000) (hcap : l.length ≤ cap) (L : List (Int × Int)) (aL : Option Addr) (capL : Nat) (w : World) (hbl : b < w.heap.size) (hc : ∀ j (h : j < l.length), w.cell? ⟨b, o + j, none⟩ = some (.int .i64 l[j])) (hL : LdAt w aL L) (hLl : L.length ≤ 400)
    (hix : ∀ y ∈ L, 0 ≤ sIdx l.tail y.1 ∧ sIdx l.tail y.1 < m) :
    Calls Try.prog 55 #[.slice (some ⟨b, o, none⟩) (m + 1) cap, .slice aL L.length capL] w (StrPost l m L w) := by
  obtain ⟨i0, hi0, hz0, hz1, hz2⟩ := info_parts infoL
  obtain ⟨j0, hj0, gz0, gz1, gz2⟩ := info_parts info2
  have HC := Lib.hid hc; have HL := Lib.hid hL; have HX := Lib.hid hix; have HM := Lib.hid hlm
  clear hc hL hix
  have hcap' : m + 1 ≤ cap := by omega
  clear hlm
  go_enter Try.func55, Try.ntmps55
  go_wp2_with (at_make; refine wpList_make_full w rfl _ _ 100 rfl w.heap.size 103 i0 _ 4 Try.underlying100 hi0 hz0 hz1 .i64 .i64 (m : Int) (m : Int) m rfl rfl rfl rfl (by rw [hz2]; omega) (by unfold maxLen; omega) (Nat.le_refl _) ?_; intro w1 hown1 hgrow1)
  have B1 : Below w.heap.size w w1 := Below.grown (Below.refl _ _) hgrow1 (Nat.le_refl _) (fun k e => by cases e)
  have O1 := Lib.hid (by have h := hown1; rw [show (Value.agg #[.int .i64 0, .int .i64 0, .int .i64 0, .slice none 0 0]).cells = #[.int .i64 0, .int .i64 0, .int .i64 0, .slice none 0 0] from rfl, stl_made l m] at h; exact h)
  clear hown1 hgrow1
  go_wp2_with fail
  go_loopw [16] (S1Rel l m w (.slice (some ⟨w.heap.size, 0, none⟩) m m)) (fun i _ => m - (intOf i).toNat)
  case atStart => exact ⟨0, by omega, rfl, O1.out, B1⟩
  case round =>
    obtain ⟨k, hk, rfl, how, hB⟩ := hrel
    have HO := Lib.hid how; clear how
    by_cases hkm : k < m
    · have hl := HM.out
      have c0 := ((bcell hB).1 b _ hbl).trans (HC.out k (by omega))
      have c1 := ((bcell hB).1 b _ hbl).trans (HC.out (k + 1) (by omega))
      have SG := Lib.hid (stl_girder l k m (fun _ => .slice none 0 0) hkm l[k] l[k + 1] (by rw [List.getD_eq_getElem?_getD, List.getElem?_eq_getElem (by omega)]; rfl) (by rw [List.getD_eq_getElem?_getD, List.getElem?_eq_getElem (by omega)]; rfl))
      generalize l[k] = x at *
      generalize l[k + 1] = y at *
      clear hl
      have i0' : (0 : Int) ≤ (k : Int) := by omega
      have i1' : (k : Int) < (m : Int) := by omega
      have i2' : (k : Int) < (m : Int) + 1 := by omega
      have i3' : (k : Int) + 1 < (m : Int) + 1 := by omega
      have i4' : (0 : Int) ≤ (k : Int) + 1 := by omega
      have i5' : IntKind.i64.wrap ((k : Int) + 1) = (k : Int) + 1 := IntWalk.i64_in _ (by omega)
      have i6' : ((k : Int) + 1).toNat = k + 1 := by omega
      have s0 := (HO.out.cellAt (k * 4) (by omega)).trans (stl_get _ _ _ _ _ (by omega))
      have s1 := (HO.out.cellAt (k * 4 + 1) (by omega)).trans (stl_get _ _ _ _ _ (by omega))
      have s2 := (HO.out.cellAt (k * 4 + 2) (by omega)).trans (stl_get _ _ _ _ _ (by omega))
      generalize stv l k (fun _ => .slice none 0 0) (k * 4) = v0 at *
      generalize stv l k (fun _ => .slice none 0 0) (k * 4 + 1) = v1 at *
      generalize stv l k (fun _ => .slice none 0 0) (k * 4 + 2) = v2 at *
      have f0 := HO.out.frozenAt (k * 4); have f1 := HO.out.frozenAt (k * 4 + 1); have f2 := HO.out.frozenAt (k * 4 + 2)
      have lg := (HO.out.lt w.heap.size rfl).2
      go_wp2_with fail
      go_still_tail 14, (by kernel_rfl)
      go_wp2_with fail
      have OC := Lib.hid (by have h := (((HO.out.stored (k * 4) (.int .i64 x)).1.stored (k * 4 + 1) (.int .i64 y)).1.stored (k * 4 + 2) (.int .i64 0)).1.drew; rw [SG.out] at h; exact h)
      have BQ : Below w.heap.size w ((((wr.setCell ⟨w.heap.size, k * 4, none⟩ (.int .i64 x)).setCell ⟨w.heap.size, k * 4 + 1, none⟩ (.int .i64 y)).setCell ⟨w.heap.size, k * 4 + 2, none⟩ (.int .i64 0)).drew) := by (repeat' (first | (with_reducible exact Below.refl _ _) | (with_reducible assumption) | (with_reducible refine Below.drew ?_) | (with_reducible refine below_drewN ?_ _) | (with_reducible refine Below.setCell ?_ ?_ _) | (with_reducible refine Below.alloc ?_ ?_ _) | go_size | omega))
      clear s0 s1 s2 f0 f1 f2
      generalize ((((wr.setCell ⟨w.heap.size, k * 4, none⟩ (.int .i64 x)).setCell ⟨w.heap.size, k * 4 + 1, none⟩ (.int .i64 y)).setCell ⟨w.heap.size, k * 4 + 2, none⟩ (.int .i64 0)).drew) = w4 at *
      go_roundw
      case rel => exact ⟨k + 1, by omega, by simp, OC.out, BQ⟩
      case measure => simp [intOf]; omega
    · obtain rfl : m = k := by omega
      have O2 := Lib.hid HO.out
      obtain ⟨u, rfl⟩ : ∃ x : World, x = wr := ⟨_, rfl⟩
      clear HO hkm O1 B1
      go_wp2_with fail
      go_loopw [36] (S2Rel l m w.heap.size L w) (fun i _ => L.length - (intOf i).toNat)
      case atStart => exact ⟨0, fun _ => .slice none 0 0, by omega, rfl, O2.out, ⟨fun i _ => ⟨World.ownsRow_nil _ _ _ _, by simp [Value.ownBlock]⟩, fun i j _ _ _ => .inl rfl⟩, hB⟩
      case round =>
        obtain ⟨k, V, hk, rfl, how, hrows, hB'⟩ := hrel
        have HO := Lib.hid how; have HR := Lib.hid hrows; clear how hrows
        by_cases hkl : k < L.length
        · have hl := HM.out
          rcases HL.out.keep hB' with h0 | ⟨bL, oL, rfl, hbL, hcL⟩
          · rw [h0] at hkl; simp at hkl
          obtain ⟨c0, c1⟩ := hcL k hkl
          clear hcL
          obtain ⟨x0, x1⟩ := HX.out _ (List.getElem_mem hkl)
          rcases hlk : L[k] with ⟨y1, y2⟩
          rw [hlk] at c0 c1 x0 x1
          have HV := Lib.hid hlk; clear hlk
          dsimp only at c0 c1 x0 x1
          obtain ⟨jn, hjn⟩ := Int.eq_ofNat_of_zero_le x0
          have hjm : jn < m := by omega
          have CI := Lib.hid (fun (u : World) (hu : Below w.heap.size w u) => searchInts_any b (o + 1) (cap - 1) l.tail y1 u (by rw [List.length_tail]; omega) (Nat.lt_of_lt_of_le hbl hu.size) (fun j hj => by
            have := ((bcell hu).1 b (o + (j + 1)) hbl).trans (HC.out (j + 1) (by rw [List.length_tail] at hj; omega))
            rw [show o + 1 + j = o + (j + 1) by omega, this, List.getElem_tail]))
          rw [show l.tail.length = m by rw [List.length_tail]; omega, hjn] at CI
          have HJ := Lib.hid hjn
          clear hjn x0 x1 hl
          have q0 : (1 : Int) ≤ (m : Int) + 1 := by omega
          have q1 : (m : Int) + 1 ≤ (cap : Int) := by omega
          have q2 : ¬ cap = 1 := by omega
          go_wp2_with fail
          have zr := hB'.size
          have YB := Lib.hid (Box.new wr #[.int .i64 y1, .int .i64 y2] 64 (n := wr.heap.size) rfl)
          have BY : Below w.heap.size w (wr.alloc (.cells #[.int .i64 y1, .int .i64 y2] 64)) := by (repeat' (first | (with_reducible exact Below.refl _ _) | (with_reducible assumption) | (with_reducible refine Below.drew ?_) | (with_reducible refine below_drewN ?_ _) | (with_reducible refine Below.setCell ?_ ?_ _) | (with_reducible refine Below.alloc ?_ ?_ _) | go_size | omega))
          have BA : Below wr.heap.size wr (wr.alloc (.cells #[.int .i64 y1, .int .i64 y2] 64)) := by (repeat' (first | (with_reducible exact Below.refl _ _) | (with_reducible assumption) | (with_reducible refine Below.drew ?_) | (with_reducible refine below_drewN ?_ _) | (with_reducible refine Below.setCell ?_ ?_ _) | (with_reducible refine Below.alloc ?_ ?_ _) | go_size | omega))
          have HO1 := Lib.hid (owns_keep HO.out BA); have HR1 := Lib.hid (HR.out.keep BA)
          clear HO HR c0 c1
          generalize (wr.alloc (.cells #[.int .i64 y1, .int .i64 y2] 64)) = u1 at *
          generalize wr.heap.size = yb at *
          have ly := YB.out.lt
          have K := Lib.hid (fun (w' : World) (hw : Below u1.heap.size u1 w') => show (w'.cell? ⟨yb, 0, none⟩ = some (.int .i64 y1) ∧ w'.cell? ⟨yb, 1, none⟩ = some (.int .i64 y2)) from ⟨(YB.out.keep hw).cell 0, (YB.out.keep hw).cell 1⟩)
          go_region_held3 (fun w' => (w'.cell? ⟨yb, 0, none⟩ = some (.int .i64 y1) ∧ w'.cell? ⟨yb, 1, none⟩ = some (.int .i64 y2)))
            ((refine K.out _ ?_; (repeat' (first | (with_reducible exact Below.refl _ _) | (with_reducible assumption) | (with_reducible refine Below.drew ?_) | (with_reducible refine below_drewN ?_ _) | (with_reducible refine Below.setCell ?_ ?_ _) | (with_reducible refine Below.alloc ?_ ?_ _) | go_size | omega)); done))
            (first | (go_at_call 82; refine (CI.out _ (below_via BY (by (repeat' (first | (with_reducible exact Below.refl _ _) | (with_reducible assumption) | (with_reducible refine Below.drew ?_) | (with_reducible refine below_drewN ?_ _) | (with_reducible refine Below.setCell ?_ ?_ _) | (with_reducible refine Below.alloc ?_ ?_ _) | go_size | omega))))).mono ?_; rintro e w8 ⟨rfl, h8⟩; have hB8 : Below u1.heap.size u1 w8 := below_via (by (repeat' (first | (with_reducible exact Below.refl _ _) | (with_reducible assumption) | (with_reducible refine Below.drew ?_) | (with_reducible refine below_drewN ?_ _) | (with_reducible refine Below.setCell ?_ ?_ _) | (with_reducible refine Below.alloc ?_ ?_ _) | go_size | omega))) h8; clear h8; have hz8 := hB8.size; obtain ⟨k0, k1⟩ := K.out w8 hB8))
          have B8 : Below w.heap.size w w8 := below_via BY hB8
          have Y8 := Lib.hid (YB.out.keep hB8); have HO8 := Lib.hid (owns_keep HO1.out hB8); have HR8 := Lib.hid (HR1.out.keep hB8)
          clear hB8 K YB HO1 HR1 k0 k1 CI
          go_wp2_with fail
          have s3 := (HO8.out.cellAt (jn * 4 + 3) (by omega)).trans (stl_get _ _ _ _ _ (by omega))
          rw [show stv l m V (jn * 4 + 3) = V jn by unfold stv; rw [if_pos (by omega), show (jn * 4 + 3) / 4 = jn by omega]] at s3
          have f3 := HO8.out.frozenAt (jn * 4 + 3)
          have lg := (HO8.out.lt w.heap.size rfl).2
          have y0' := Y8.out.cell 0; have y1' := Y8.out.cell 1
          simp at y0' y1'
          have ly8 := Y8.out.lt
          have i0' : (0 : Int) ≤ (jn : Int) := by omega
          have i1' : (jn : Int) < (m : Int) := by omega
          have hlg8 : w.heap.size < w8.heap.size := lg
          have HJO := Lib.hid (HR8.out.1 jn hjm).1
          have hpl : (part l (L.take k) jn).length ≤ 400 := by have := part_le l (L.take k) jn; have := List.length_take_le k L; omega
          have HG := Lib.hid (And.intro (HR8.out.1 jn hjm).2 hlg8)
          go_region_law (refine step_append_lies _ (by rfl) _ _ 48 (by rfl) w.heap.size 64 j0 _ 2 16 Try.underlying48 hj0 gz0 gz1 gz2 rfl (by omega) (V jn) (part l (L.take k) jn).length (ldc (part l (L.take k) jn)) (by rfl) (HJO.out.alloc _).drew ⟨w8.heap.size, 0, none⟩ 1 1 [.int .i64 y1, .int .i64 y2] (by rfl) rfl (World.news_of_block (w := (w8.alloc (.cells #[.int .i64 y1, .int .i64 y2] 64)).drew) (heap_alloc_new w8 _)) (by simp [Value.oneCell']) (by omega) (by unfold maxLen; omega) (by omega) (by simp; omega) _ rfl ?_; intro g9 cg9 w9 hown9 hgrow9 hat9 hlt9; have HO9 := Lib.hid ((HO8.out.alloc (.cells #[.int .i64 y1, .int .i64 y2] 64)).drew.kept hgrow9 (.inr (fun e => HG.out.1 e.symm))); have s9 := HO9.out.cellAt (jn * 4 + 3) (by omega); rw [stl_get _ _ _ _ _ (by omega)] at s9; have f9 := HO9.out.frozenAt (jn * 4 + 3); have lg9 := (HO9.out.lt w.heap.size rfl).2; have HW9 := Lib.hid hown9; have HGR9 := Lib.hid hgrow9; have HAT9 := Lib.hid hat9; clear hown9 hgrow9 hat9)
          all_goals
            go_wp2_with fail
            have HT := Lib.hid (show L.take (k + 1) = L.take k ++ [(y1, y2)] by rw [List.take_succ_eq_append_getElem hkl, HV.out])
            have OC := Lib.hid (by have h := (HO9.out.stored (jn * 4 + 3) (.slice (some ⟨g9, 0, none⟩) ((part l (L.take k) jn).length + 1) cg9)).1; rw [stl_loads l m m jn V hjm] at h; exact h)
            have RC := Lib.hid (LdRows_step (y := (y1, y2)) (LdRows.keep HR8.out (show Below w8.heap.size w8 (w8.alloc (.cells #[.int .i64 y1, .int .i64 y2] 64)).drew by (repeat' (first | (with_reducible exact Below.refl _ _) | (with_reducible assumption) | (with_reducible refine Below.drew ?_) | (with_reducible refine below_drewN ?_ _) | (with_reducible refine Below.setCell ?_ ?_ _) | (with_reducible refine Below.alloc ?_ ?_ _) | go_size | omega)))) hjm HJ.out HGR9.out HW9.out rfl (by rw [part_snoc_same l (L.take k) (y1, y2) jn HJ.out, ldc_snoc]) HAT9.out (by simp; omega) (.slice (some ⟨g9, 0, none⟩) ((part l (L.take k) jn).length + 1) cg9) (jn * 4 + 3))
            have B9 : Below w.heap.size w w9 := Below.grown (show Below w.heap.size w (w8.alloc (.cells #[.int .i64 y1, .int .i64 y2] 64)).drew by (repeat' (first | (with_reducible exact Below.refl _ _) | (with_reducible assumption) | (with_reducible refine Below.drew ?_) | (with_reducible refine below_drewN ?_ _) | (with_reducible refine Below.setCell ?_ ?_ _) | (with_reducible refine Below.alloc ?_ ?_ _) | go_size | omega))) HGR9.out (by simp; omega) (fun j e => (HJO.out.lt _ e).1)
            have BQ : Below w.heap.size w (w9.setCell ⟨w.heap.size, jn * 4 + 3, none⟩ (.slice (some ⟨g9, 0, none⟩) ((part l (L.take k) jn).length + 1) cg9)) := by (repeat' (first | (with_reducible exact Below.refl _ _) | (with_reducible assumption) | (with_reducible refine Below.drew ?_) | (with_reducible refine below_drewN ?_ _) | (with_reducible refine Below.setCell ?_ ?_ _) | (with_reducible refine Below.alloc ?_ ?_ _) | go_size | omega))
            clear HO9 HW9 HGR9 s9 f9 s3 f3 y0' y1'
            go_roundw
            case rel => exact ⟨k + 1, _, by omega, by simp, OC.out, by rw [HT.out]; exact RC.out, BQ⟩
            case measure => simp [intOf]; omega
        · obtain rfl : k = L.length := by omega
          go_wp2_with fail
          go_ret
          exact ⟨⟨w.heap.size, V, rfl, HO.out, by have h := HR.out; rw [List.take_length] at h; exact h⟩, hB'⟩
end Go.Proofs.Ytahfliboanphkaa
