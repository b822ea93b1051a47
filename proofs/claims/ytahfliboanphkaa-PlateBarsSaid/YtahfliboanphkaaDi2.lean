/-
  The chapter's example of bars: the loads of its stretches.
-/
import Derived.Test.YtahfliboanphkaaSrc
import Derived.Test.YtahfliboanphkaaRea
import Derived.Test.YtahfliboanphkaaVec
import Derived.Deep.AppendLies
import Derived.Deep.RegionHeld3
import Derived.StillTailTactics
import Derived.Deep.RegionLaw
namespace Go.Proofs.Ytahfliboanphkaa
open Go.RowKit
theorem info82 : (Try.prog.info? 64).map (fun i => (i.zero, i.size, i.bytes)) = some (some (.agg #[.int .i64 0, .int .i64 0]), 2, 16) := by kernel_rfl
theorem own_of_block {w w' : World} {base e size n : Nat} {v : Value} {xs : List Value} (h : w.ownsRow base e size v n xs) (hb : ∀ g, v.ownBlock = some g → w'.heap[g]? = w.heap[g]?) : w'.ownsRow base e size v n xs := by
  refine ⟨h.1, ?_⟩
  rcases h.2 with hn | ⟨g, cap, cur, rfl, hbb, hgg, rest⟩
  · exact .inl hn
  · exact .inr ⟨g, cap, cur, rfl, hbb, (hb g rfl).trans hgg, rest⟩
theorem own_keep {w w' : World} {base e size n : Nat} {v : Value} {xs : List Value} (h : w.ownsRow base e size v n xs) (hb : Below w.heap.size w w') : w'.ownsRow base e size v n xs :=
  own_of_block h fun g hg => hb.block g (h.lt g hg).2
theorem own_set {w : World} {base e size n : Nat} {v : Value} {xs : List Value} (h : w.ownsRow base e size v n xs) (a : Addr) (u : Value) (ha : a.block < base) : (w.setCell a u).ownsRow base e size v n xs :=
  own_of_block h fun g hg => Below.heap_setCell w a u g (by have := (h.lt g hg).1; omega)
theorem ne_sym {a b : Value} (h : a.ownBlock = none ∨ a.ownBlock ≠ b.ownBlock) : b.ownBlock = none ∨ b.ownBlock ≠ a.ownBlock := by
  rcases h with h | h
  · rw [h]; cases hb : b.ownBlock <;> simp
  · exact .inr (fun e => h e.symm)
theorem ne_new {a b : Value} {g H : Nat} (ne : a.ownBlock = none ∨ a.ownBlock ≠ b.ownBlock) (hat : a.ownBlock = some g ∨ g = H) (hb : ∀ k, b.ownBlock = some k → k < H) : some g ≠ b.ownBlock := by
  intro e
  rcases hat with h | h
  · rcases ne with n | n
    · rw [n] at h; cases h
    · exact n (h.trans e)
  · have := hb g e.symm; omega
theorem Box.grown {w w' : World} {b : Nat} {cs : Array Value} {t : TypeId} {row : Option Nat} (h : Box w b cs t) (hg : w.grownBy w' row) (hne : some b ≠ row) : Box w' b cs t := (hg.block b h.lt hne).trans h
def nR0 (k : Nat) : Nat := if k = 0 then 0 else 1
def nR1 (k : Nat) : Nat := k - nR0 k
def xR0 (k : Nat) : List Value := if k = 0 then [] else [.int .i64 50, .int .i64 60]
def xR1 (k : Nat) : List Value := if k ≤ 1 then [] else if k = 2 then [.int .i64 200, .int .i64 90] else [.int .i64 200, .int .i64 90, .int .i64 300, .int .i64 10]
def StRel (w : World) (v36 : Value) (wr : World) : Prop :=
  ∃ (k : Nat) (h0 h1 : Value), k ≤ 3 ∧ v36 = .int .i64 (k : Int) ∧ Box wr w.heap.size #[.int .i64 0, .int .i64 100, .int .i64 0, h0, .int .i64 100, .int .i64 300, .int .i64 0, h1] 103 ∧ wr.ownsRow (w.heap.size + 1) 64 2 h0 (nR0 k) (xR0 k) ∧ wr.ownsRow (w.heap.size + 1) 64 2 h1 (nR1 k) (xR1 k) ∧
    (h0.ownBlock = none ∨ h0.ownBlock ≠ h1.ownBlock) ∧ Below w.heap.size w wr
def StPost (w : World) (e : Ending) (w' : World) : Prop :=
  ∃ (h0 h1 : Value), e = .returned (.slice (some ⟨w.heap.size, 0, none⟩) 2 2) ∧ Box w' w.heap.size #[.int .i64 0, .int .i64 100, .int .i64 0, h0, .int .i64 100, .int .i64 300, .int .i64 0, h1] 103 ∧ w'.ownsRow (w.heap.size + 1) 64 2 h0 1 [.int .i64 50, .int .i64 60] ∧ w'.ownsRow (w.heap.size + 1) 64 2 h1 2 [.int .i64 200, .int .i64 90, .int .i64 300, .int .i64 10] ∧ Below w.heap.size w w'
set_option maxRecDepth 100000 in
set_option maxHeartbeats 3200000 in
theorem stretches_ex (b c : Nat) (w : World) (hb : Box w b #[.int .i64 0, .int .i64 100, .int .i64 300] 3) (hc : Box w c #[.int .i64 50, .int .i64 60, .int .i64 200, .int .i64 90, .int .i64 300, .int .i64 10] 64) :
    Calls Try.prog 55 #[.slice (some ⟨b, 0, none⟩) 3 3, .slice (some ⟨c, 0, none⟩) 3 3] w (StPost w) := by
  obtain ⟨i0, hi0, hz0, hz1, hz2⟩ := info_parts info82
  have hmk : ∀ u : World, (Instr.makeSlice 100 (.int .i64 2) (.int .i64 2)).run Try.prog u = .ok (.slice (some ⟨u.heap.size, 0, none⟩) 2 2) (u.alloc (.cells #[.int .i64 0, .int .i64 0, .int .i64 0, .slice none 0 0, .int .i64 0, .int .i64 0, .int .i64 0, .slice none 0 0] 103)) := fun _ => by kernel_rfl
  have HB := Lib.hid hb; have HC := Lib.hid hc
  have lb := hb.lt; have lc := hc.lt
  clear hb hc
  go_enter Try.func55, Try.ntmps55
  go_wp2_with fail
  have HB1 := Lib.hid (HB.out.alloc (.cells #[.int .i64 0, .int .i64 0, .int .i64 0, .slice none 0 0, .int .i64 0, .int .i64 0, .int .i64 0, .slice none 0 0] 103))
  have HC1 := Lib.hid (HC.out.alloc (.cells #[.int .i64 0, .int .i64 0, .int .i64 0, .slice none 0 0, .int .i64 0, .int .i64 0, .int .i64 0, .slice none 0 0] 103))
  have S1 := Lib.hid (Box.new w #[.int .i64 0, .int .i64 0, .int .i64 0, .slice none 0 0, .int .i64 0, .int .i64 0, .int .i64 0, .slice none 0 0] 103 (n := w.heap.size) rfl)
  have BU : Below w.heap.size w (w.alloc (.cells #[.int .i64 0, .int .i64 0, .int .i64 0, .slice none 0 0, .int .i64 0, .int .i64 0, .int .i64 0, .slice none 0 0] 103)) := by go_grown
  generalize (w.alloc (.cells #[.int .i64 0, .int .i64 0, .int .i64 0, .slice none 0 0, .int .i64 0, .int .i64 0, .int .i64 0, .slice none 0 0] 103)) = u at *
  clear hmk
  have lS := S1.out.lt
  have zu := BU.size
  obtain ⟨p0, p1, p2, -⟩ := HB1.out.three
  have s0 := S1.out.cell 0; have s1 := S1.out.cell 1; have s2 := S1.out.cell 2; have f0 := S1.out.free 0; have f1 := S1.out.free 1; have f2 := S1.out.free 2
  have s4 := S1.out.cell 4; have s5 := S1.out.cell 5; have s6 := S1.out.cell 6; have f4 := S1.out.free 4; have f5 := S1.out.free 5; have f6 := S1.out.free 6
  simp at s0 s1 s2 s4 s5 s6
  refine wp_loop_rounds 3 ?_
  rw [rounds_succ]
  go_wp2_with fail
  go_region
  go_wp2_with fail
  rw [rounds_succ]
  go_wp2_with fail
  go_region
  go_wp2_with fail
  rw [rounds_succ]
  go_wp2_with fail
  have S2 : Hid (Box (((((((u.setCell ⟨w.heap.size, 0, none⟩ (.int .i64 0)).setCell ⟨w.heap.size, 1, none⟩ (.int .i64 100)).setCell ⟨w.heap.size, 2, none⟩ (.int .i64 0)).setCell ⟨w.heap.size, 4, none⟩ (.int .i64 100)).setCell ⟨w.heap.size, 5, none⟩ (.int .i64 300)).setCell ⟨w.heap.size, 6, none⟩ (.int .i64 0)).drew.drew) w.heap.size #[.int .i64 0, .int .i64 100, .int .i64 0, .slice none 0 0, .int .i64 100, .int .i64 300, .int .i64 0, .slice none 0 0] 103) := Lib.hid (((((((S1.out.set 0 _).set 1 _).set 2 _).set 4 _).set 5 _).set 6 _).drew.drew)
  have BV : Below w.heap.size w (((((((u.setCell ⟨w.heap.size, 0, none⟩ (.int .i64 0)).setCell ⟨w.heap.size, 1, none⟩ (.int .i64 100)).setCell ⟨w.heap.size, 2, none⟩ (.int .i64 0)).setCell ⟨w.heap.size, 4, none⟩ (.int .i64 100)).setCell ⟨w.heap.size, 5, none⟩ (.int .i64 300)).setCell ⟨w.heap.size, 6, none⟩ (.int .i64 0)).drew.drew) := by (repeat' (first | (with_reducible exact Below.refl _ _) | (with_reducible assumption) | (with_reducible refine Below.drew ?_) | (with_reducible refine below_drewN ?_ _) | (with_reducible refine Below.setCell ?_ ?_ _) | (with_reducible refine Below.alloc ?_ ?_ _) | go_size | omega))
  have HBV := Lib.hid BV
  clear p0 p1 p2 s0 s1 s2 s4 s5 s6 f0 f1 f2 f4 f5 f6 HB1 HC1 S1 BU BV
  generalize (((((((u.setCell ⟨w.heap.size, 0, none⟩ (.int .i64 0)).setCell ⟨w.heap.size, 1, none⟩ (.int .i64 100)).setCell ⟨w.heap.size, 2, none⟩ (.int .i64 0)).setCell ⟨w.heap.size, 4, none⟩ (.int .i64 100)).setCell ⟨w.heap.size, 5, none⟩ (.int .i64 300)).setCell ⟨w.heap.size, 6, none⟩ (.int .i64 0)).drew.drew) = v0 at *
  clear zu lS
  go_loopw [36] (StRel w) (fun i _ => 3 - (intOf i).toNat)
  case atStart => exact ⟨0, _, _, by omega, rfl, S2.out, World.ownsRow_nil _ _ _ _, World.ownsRow_nil _ _ _ _, .inl rfl, HBV.out⟩
  case round =>
    clear S2 HBV
    obtain ⟨k, h0, h1, hk, rfl, hS, ho0, ho1, hne, hB⟩ := hrel
    have S2 := Lib.hid hS; have O0 := Lib.hid ho0; have O1 := Lib.hid ho1; have NE := Lib.hid hne; have BV := hB
    clear hS ho0 ho1 hne hB
    have zv := BV.size
    rcases (show k = 0 ∨ k = 1 ∨ k = 2 ∨ k = 3 by omega) with rfl | rfl | rfl | rfl
    · have c0 := (HC.out.keep BV).cell 0; have c1 := (HC.out.keep BV).cell 1
      have lc' : c < wr.heap.size := by omega
      simp at c0 c1
      go_wp2_with fail
      have X := Lib.hid (Box.new wr #[.int .i64 50, .int .i64 60] 64 rfl)
      have Ba : Below wr.heap.size wr (wr.alloc (.cells #[.int .i64 50, .int .i64 60] 64)) := by go_grown
      have Sa := Lib.hid (S2.out.keep Ba); have P0 := Lib.hid (own_keep O0.out Ba); have P1 := Lib.hid (own_keep O1.out Ba)
      have BWa : Below w.heap.size w (wr.alloc (.cells #[.int .i64 50, .int .i64 60] 64)) := by (repeat' (first | (with_reducible exact Below.refl _ _) | (with_reducible assumption) | (with_reducible refine Below.drew ?_) | (with_reducible refine below_drewN ?_ _) | (with_reducible refine Below.setCell ?_ ?_ _) | (with_reducible refine Below.alloc ?_ ?_ _) | go_size | omega))
      have hnx : w.heap.size < wr.heap.size := S2.out.lt
      clear c0 c1 lc' S2 BV O0 O1
      generalize hxx : wr.heap.size = x at *
      generalize (wr.alloc (.cells #[.int .i64 50, .int .i64 60] 64)) = u at *
      have lx := X.out.lt
      have za := BWa.size
      have CS := Lib.hid (fun (y : World) (hy : Below u.heap.size u y) => searchInts2 b 1 2 100 300 50 y (by have := hy.size; omega) (((HB.out.keep BWa).keep hy).cell 1) (((HB.out.keep BWa).keep hy).cell 2))
      have hat2 : at2 100 300 50 = 0 := by decide
      rw [hat2] at CS
      clear hat2
      have K := Lib.hid (fun (w' : World) (hw : Below u.heap.size u w') => show (w'.cell? ⟨x, 0, none⟩ = some (.int .i64 50) ∧ w'.cell? ⟨x, 1, none⟩ = some (.int .i64 60)) from ⟨(Box.keepB (by omega) (X.out) hw).cell 0, (Box.keepB (by omega) (X.out) hw).cell 1⟩)
      go_region_held3 (fun w' => (w'.cell? ⟨x, 0, none⟩ = some (.int .i64 50) ∧ w'.cell? ⟨x, 1, none⟩ = some (.int .i64 60)))
        ((refine K.out _ ?_; (repeat' (first | (with_reducible exact Below.refl _ _) | (with_reducible assumption) | (with_reducible refine Below.drew ?_) | (with_reducible refine below_drewN ?_ _) | (with_reducible refine Below.setCell ?_ ?_ _) | (with_reducible refine Below.alloc ?_ ?_ _) | go_size | omega)); done))
        (first | (go_at_call 82; refine (CS.out _ (by (repeat' (first | (with_reducible exact Below.refl _ _) | (with_reducible assumption) | (with_reducible refine Below.drew ?_) | (with_reducible refine below_drewN ?_ _) | (with_reducible refine Below.setCell ?_ ?_ _) | (with_reducible refine Below.alloc ?_ ?_ _) | go_size | omega)))).mono ?_; rintro e w9 ⟨rfl, h9⟩; have hB9 : Below u.heap.size u w9 := below_via (by (repeat' (first | (with_reducible exact Below.refl _ _) | (with_reducible assumption) | (with_reducible refine Below.drew ?_) | (with_reducible refine below_drewN ?_ _) | (with_reducible refine Below.setCell ?_ ?_ _) | (with_reducible refine Below.alloc ?_ ?_ _) | go_size | omega))) h9; clear h9; have hz9 := hB9.size; obtain ⟨k0_0, k0_1⟩ := K.out w9 hB9))
      all_goals
        have S9 := Lib.hid (Sa.out.keep hB9); have X9 := Lib.hid (X.out.keep hB9); have Q0 := Lib.hid (own_keep P0.out hB9); have Q1 := Lib.hid (own_keep P1.out hB9)
        have B9 := Lib.hid (below_via BWa hB9)
        clear K k0_0 k0_1 P0 P1 X Sa hB9 CS BWa
        have hh := S9.out.cell 3; have lS9 := S9.out.lt
        have x0 := X9.out.cell 0; have x1 := X9.out.cell 1; have lx9 := X9.out.lt
        simp at hh x0 x1
        go_wp2_with fail
        go_region_law ((refine step_append_lies _ (by rfl) _ _ _ (by rfl) (w.heap.size + 1) 64 i0 _ 2 16 Try.underlying48 hi0 hz0 hz1 hz2 rfl (by omega) h0 0 _ (by rfl) ((own_keep Q0.out (by (repeat' (first | (with_reducible exact Below.refl _ _) | (with_reducible assumption) | (with_reducible refine Below.drew ?_) | (with_reducible refine below_drewN ?_ _) | (with_reducible refine Below.setCell ?_ ?_ _) | (with_reducible refine Below.alloc ?_ ?_ _) | go_size | omega)) : Below w9.heap.size w9 (w9.alloc (.cells #[.int .i64 50, .int .i64 60] 64)))).drew) ⟨w9.heap.size, 0, none⟩ 1 1 [.int .i64 50, .int .i64 60] (by rfl) (by rfl) (World.news_of_block (cs := #[.int .i64 50, .int .i64 60]) (t := 64) (fr := (0, 0)) (heap_alloc_new w9 _)) (by simp [Value.oneCell']) (by omega) (by unfold maxLen; omega) (by omega) (by simp; omega) (w9.heap.size + 1) (by simp) ?_; intro g cap w1 hown1 hgrow hat hlt; have T9 := Lib.hid (((S9.out.alloc (.cells #[.int .i64 50, .int .i64 60] 64)).drew).grown hgrow (fun e => absurd (Q0.out.lt _ e.symm).1 (by omega))); have t0 := T9.out.cell 3; have t1 := T9.out.free 3; have tl := T9.out.lt; simp at t0))
        all_goals
          go_wp2_with fail
          go_roundw
          case rel =>
            have ne' := NE.out
            have bel : Below w.heap.size w w1 := (((B9.out.alloc (by have := B9.out.size; omega) (.cells #[.int .i64 50, .int .i64 60] 64)).drew).grown hgrow (by have := B9.out.size; simp; omega) (fun k e => Nat.le_of_succ_le (Q0.out.lt k e).1))
            refine ⟨1, .slice (some ⟨g, 0, none⟩) 1 cap, h1, by omega, by simp, T9.out.set 3 _, own_set hown1 ⟨w.heap.size, 3, none⟩ _ (by simp), own_set (((Q1.out.alloc _).drew).kept hgrow (ne_sym ne')) ⟨w.heap.size, 3, none⟩ _ (by simp), (.inr (ne_new ne' hat (fun k e => Nat.lt_succ_of_lt (Q1.out.lt k e).2))), bel.setCell (p := ⟨w.heap.size, 3, none⟩) (Nat.le_refl _) _⟩
          case measure => simp [intOf]
    · have c0 := (HC.out.keep BV).cell 2; have c1 := (HC.out.keep BV).cell 3
      have lc' : c < wr.heap.size := by omega
      simp at c0 c1
      go_wp2_with fail
      have X := Lib.hid (Box.new wr #[.int .i64 200, .int .i64 90] 64 rfl)
      have Ba : Below wr.heap.size wr (wr.alloc (.cells #[.int .i64 200, .int .i64 90] 64)) := by go_grown
      have Sa := Lib.hid (S2.out.keep Ba); have P0 := Lib.hid (own_keep O0.out Ba); have P1 := Lib.hid (own_keep O1.out Ba)
      have BWa : Below w.heap.size w (wr.alloc (.cells #[.int .i64 200, .int .i64 90] 64)) := by (repeat' (first | (with_reducible exact Below.refl _ _) | (with_reducible assumption) | (with_reducible refine Below.drew ?_) | (with_reducible refine below_drewN ?_ _) | (with_reducible refine Below.setCell ?_ ?_ _) | (with_reducible refine Below.alloc ?_ ?_ _) | go_size | omega))
      have hnx : w.heap.size < wr.heap.size := S2.out.lt
      clear c0 c1 lc' S2 BV O0 O1
      generalize hxx : wr.heap.size = x at *
      generalize (wr.alloc (.cells #[.int .i64 200, .int .i64 90] 64)) = u at *
      have lx := X.out.lt
      have za := BWa.size
      have CS := Lib.hid (fun (y : World) (hy : Below u.heap.size u y) => searchInts2 b 1 2 100 300 200 y (by have := hy.size; omega) (((HB.out.keep BWa).keep hy).cell 1) (((HB.out.keep BWa).keep hy).cell 2))
      have hat2 : at2 100 300 200 = 1 := by decide
      rw [hat2] at CS
      clear hat2
      have K := Lib.hid (fun (w' : World) (hw : Below u.heap.size u w') => show (w'.cell? ⟨x, 0, none⟩ = some (.int .i64 200) ∧ w'.cell? ⟨x, 1, none⟩ = some (.int .i64 90)) from ⟨(Box.keepB (by omega) (X.out) hw).cell 0, (Box.keepB (by omega) (X.out) hw).cell 1⟩)
      go_region_held3 (fun w' => (w'.cell? ⟨x, 0, none⟩ = some (.int .i64 200) ∧ w'.cell? ⟨x, 1, none⟩ = some (.int .i64 90)))
        ((refine K.out _ ?_; (repeat' (first | (with_reducible exact Below.refl _ _) | (with_reducible assumption) | (with_reducible refine Below.drew ?_) | (with_reducible refine below_drewN ?_ _) | (with_reducible refine Below.setCell ?_ ?_ _) | (with_reducible refine Below.alloc ?_ ?_ _) | go_size | omega)); done))
        (first | (go_at_call 82; refine (CS.out _ (by (repeat' (first | (with_reducible exact Below.refl _ _) | (with_reducible assumption) | (with_reducible refine Below.drew ?_) | (with_reducible refine below_drewN ?_ _) | (with_reducible refine Below.setCell ?_ ?_ _) | (with_reducible refine Below.alloc ?_ ?_ _) | go_size | omega)))).mono ?_; rintro e w9 ⟨rfl, h9⟩; have hB9 : Below u.heap.size u w9 := below_via (by (repeat' (first | (with_reducible exact Below.refl _ _) | (with_reducible assumption) | (with_reducible refine Below.drew ?_) | (with_reducible refine below_drewN ?_ _) | (with_reducible refine Below.setCell ?_ ?_ _) | (with_reducible refine Below.alloc ?_ ?_ _) | go_size | omega))) h9; clear h9; have hz9 := hB9.size; obtain ⟨k0_0, k0_1⟩ := K.out w9 hB9))
      all_goals
        have S9 := Lib.hid (Sa.out.keep hB9); have X9 := Lib.hid (X.out.keep hB9); have Q0 := Lib.hid (own_keep P0.out hB9); have Q1 := Lib.hid (own_keep P1.out hB9)
        have B9 := Lib.hid (below_via BWa hB9)
        clear K k0_0 k0_1 P0 P1 X Sa hB9 CS BWa
        have hh := S9.out.cell 7; have lS9 := S9.out.lt
        have x0 := X9.out.cell 0; have x1 := X9.out.cell 1; have lx9 := X9.out.lt
        simp at hh x0 x1
        go_wp2_with fail
        go_region_law ((refine step_append_lies _ (by rfl) _ _ _ (by rfl) (w.heap.size + 1) 64 i0 _ 2 16 Try.underlying48 hi0 hz0 hz1 hz2 rfl (by omega) h1 0 _ (by rfl) ((own_keep Q1.out (by (repeat' (first | (with_reducible exact Below.refl _ _) | (with_reducible assumption) | (with_reducible refine Below.drew ?_) | (with_reducible refine below_drewN ?_ _) | (with_reducible refine Below.setCell ?_ ?_ _) | (with_reducible refine Below.alloc ?_ ?_ _) | go_size | omega)) : Below w9.heap.size w9 (w9.alloc (.cells #[.int .i64 200, .int .i64 90] 64)))).drew) ⟨w9.heap.size, 0, none⟩ 1 1 [.int .i64 200, .int .i64 90] (by rfl) (by rfl) (World.news_of_block (cs := #[.int .i64 200, .int .i64 90]) (t := 64) (fr := (0, 0)) (heap_alloc_new w9 _)) (by simp [Value.oneCell']) (by omega) (by unfold maxLen; omega) (by omega) (by simp; omega) (w9.heap.size + 1) (by simp) ?_; intro g cap w1 hown1 hgrow hat hlt; have T9 := Lib.hid (((S9.out.alloc (.cells #[.int .i64 200, .int .i64 90] 64)).drew).grown hgrow (fun e => absurd (Q1.out.lt _ e.symm).1 (by omega))); have t0 := T9.out.cell 7; have t1 := T9.out.free 7; have tl := T9.out.lt; simp at t0))
        all_goals
          go_wp2_with fail
          go_roundw
          case rel =>
            have ne' := NE.out
            have bel : Below w.heap.size w w1 := (((B9.out.alloc (by have := B9.out.size; omega) (.cells #[.int .i64 200, .int .i64 90] 64)).drew).grown hgrow (by have := B9.out.size; simp; omega) (fun k e => Nat.le_of_succ_le (Q1.out.lt k e).1))
            refine ⟨2, h0, .slice (some ⟨g, 0, none⟩) 1 cap, by omega, by simp, T9.out.set 7 _, own_set (((Q0.out.alloc _).drew).kept hgrow (ne')) ⟨w.heap.size, 7, none⟩ _ (by simp), own_set hown1 ⟨w.heap.size, 7, none⟩ _ (by simp), (ne_sym (.inr (ne_new (ne_sym ne') hat (fun k e => Nat.lt_succ_of_lt (Q0.out.lt k e).2)))), bel.setCell (p := ⟨w.heap.size, 7, none⟩) (Nat.le_refl _) _⟩
          case measure => simp [intOf]
    · have c0 := (HC.out.keep BV).cell 4; have c1 := (HC.out.keep BV).cell 5
      have lc' : c < wr.heap.size := by omega
      simp at c0 c1
      go_wp2_with fail
      have X := Lib.hid (Box.new wr #[.int .i64 300, .int .i64 10] 64 rfl)
      have Ba : Below wr.heap.size wr (wr.alloc (.cells #[.int .i64 300, .int .i64 10] 64)) := by go_grown
      have Sa := Lib.hid (S2.out.keep Ba); have P0 := Lib.hid (own_keep O0.out Ba); have P1 := Lib.hid (own_keep O1.out Ba)
      have BWa : Below w.heap.size w (wr.alloc (.cells #[.int .i64 300, .int .i64 10] 64)) := by (repeat' (first | (with_reducible exact Below.refl _ _) | (with_reducible assumption) | (with_reducible refine Below.drew ?_) | (with_reducible refine below_drewN ?_ _) | (with_reducible refine Below.setCell ?_ ?_ _) | (with_reducible refine Below.alloc ?_ ?_ _) | go_size | omega))
      have hnx : w.heap.size < wr.heap.size := S2.out.lt
      clear c0 c1 lc' S2 BV O0 O1
      generalize hxx : wr.heap.size = x at *
      generalize (wr.alloc (.cells #[.int .i64 300, .int .i64 10] 64)) = u at *
      have lx := X.out.lt
      have za := BWa.size
      have CS := Lib.hid (fun (y : World) (hy : Below u.heap.size u y) => searchInts2 b 1 2 100 300 300 y (by have := hy.size; omega) (((HB.out.keep BWa).keep hy).cell 1) (((HB.out.keep BWa).keep hy).cell 2))
      have hat2 : at2 100 300 300 = 1 := by decide
      rw [hat2] at CS
      clear hat2
      have K := Lib.hid (fun (w' : World) (hw : Below u.heap.size u w') => show (w'.cell? ⟨x, 0, none⟩ = some (.int .i64 300) ∧ w'.cell? ⟨x, 1, none⟩ = some (.int .i64 10)) from ⟨(Box.keepB (by omega) (X.out) hw).cell 0, (Box.keepB (by omega) (X.out) hw).cell 1⟩)
      go_region_held3 (fun w' => (w'.cell? ⟨x, 0, none⟩ = some (.int .i64 300) ∧ w'.cell? ⟨x, 1, none⟩ = some (.int .i64 10)))
        ((refine K.out _ ?_; (repeat' (first | (with_reducible exact Below.refl _ _) | (with_reducible assumption) | (with_reducible refine Below.drew ?_) | (with_reducible refine below_drewN ?_ _) | (with_reducible refine Below.setCell ?_ ?_ _) | (with_reducible refine Below.alloc ?_ ?_ _) | go_size | omega)); done))
        (first | (go_at_call 82; refine (CS.out _ (by (repeat' (first | (with_reducible exact Below.refl _ _) | (with_reducible assumption) | (with_reducible refine Below.drew ?_) | (with_reducible refine below_drewN ?_ _) | (with_reducible refine Below.setCell ?_ ?_ _) | (with_reducible refine Below.alloc ?_ ?_ _) | go_size | omega)))).mono ?_; rintro e w9 ⟨rfl, h9⟩; have hB9 : Below u.heap.size u w9 := below_via (by (repeat' (first | (with_reducible exact Below.refl _ _) | (with_reducible assumption) | (with_reducible refine Below.drew ?_) | (with_reducible refine below_drewN ?_ _) | (with_reducible refine Below.setCell ?_ ?_ _) | (with_reducible refine Below.alloc ?_ ?_ _) | go_size | omega))) h9; clear h9; have hz9 := hB9.size; obtain ⟨k0_0, k0_1⟩ := K.out w9 hB9))
      all_goals
        have S9 := Lib.hid (Sa.out.keep hB9); have X9 := Lib.hid (X.out.keep hB9); have Q0 := Lib.hid (own_keep P0.out hB9); have Q1 := Lib.hid (own_keep P1.out hB9)
        have B9 := Lib.hid (below_via BWa hB9)
        clear K k0_0 k0_1 P0 P1 X Sa hB9 CS BWa
        have hh := S9.out.cell 7; have lS9 := S9.out.lt
        have x0 := X9.out.cell 0; have x1 := X9.out.cell 1; have lx9 := X9.out.lt
        simp at hh x0 x1
        go_wp2_with fail
        go_region_law ((refine step_append_lies _ (by rfl) _ _ _ (by rfl) (w.heap.size + 1) 64 i0 _ 2 16 Try.underlying48 hi0 hz0 hz1 hz2 rfl (by omega) h1 1 _ (by rfl) ((own_keep Q1.out (by (repeat' (first | (with_reducible exact Below.refl _ _) | (with_reducible assumption) | (with_reducible refine Below.drew ?_) | (with_reducible refine below_drewN ?_ _) | (with_reducible refine Below.setCell ?_ ?_ _) | (with_reducible refine Below.alloc ?_ ?_ _) | go_size | omega)) : Below w9.heap.size w9 (w9.alloc (.cells #[.int .i64 300, .int .i64 10] 64)))).drew) ⟨w9.heap.size, 0, none⟩ 1 1 [.int .i64 300, .int .i64 10] (by rfl) (by rfl) (World.news_of_block (cs := #[.int .i64 300, .int .i64 10]) (t := 64) (fr := (0, 0)) (heap_alloc_new w9 _)) (by simp [Value.oneCell']) (by omega) (by unfold maxLen; omega) (by omega) (by simp; omega) (w9.heap.size + 1) (by simp) ?_; intro g cap w1 hown1 hgrow hat hlt; have T9 := Lib.hid (((S9.out.alloc (.cells #[.int .i64 300, .int .i64 10] 64)).drew).grown hgrow (fun e => absurd (Q1.out.lt _ e.symm).1 (by omega))); have t0 := T9.out.cell 7; have t1 := T9.out.free 7; have tl := T9.out.lt; simp at t0))
        all_goals
          go_wp2_with fail
          go_roundw
          case rel =>
            have ne' := NE.out
            have bel : Below w.heap.size w w1 := (((B9.out.alloc (by have := B9.out.size; omega) (.cells #[.int .i64 300, .int .i64 10] 64)).drew).grown hgrow (by have := B9.out.size; simp; omega) (fun k e => Nat.le_of_succ_le (Q1.out.lt k e).1))
            refine ⟨3, h0, .slice (some ⟨g, 0, none⟩) 2 cap, by omega, by simp, T9.out.set 7 _, own_set (((Q0.out.alloc _).drew).kept hgrow (ne')) ⟨w.heap.size, 7, none⟩ _ (by simp), own_set hown1 ⟨w.heap.size, 7, none⟩ _ (by simp), (ne_sym (.inr (ne_new (ne_sym ne') hat (fun k e => Nat.lt_succ_of_lt (Q0.out.lt k e).2)))), bel.setCell (p := ⟨w.heap.size, 7, none⟩) (Nat.le_refl _) _⟩
          case measure => simp [intOf]
    · go_wp2_with fail
      go_ret
      exact ⟨h0, h1, rfl, S2.out, O0.out, O1.out, BV⟩
end Go.Proofs.Ytahfliboanphkaa
