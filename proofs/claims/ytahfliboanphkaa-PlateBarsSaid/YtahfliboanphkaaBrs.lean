/-
  Bars: lists of whole numbers that ascend; whether bars are right; copies of lists of whole numbers.
-/
import Derived.Test.YtahfliboanphkaaCpo
import Derived.Deep.DrawnRows
import Derived.OwnWalk
namespace Go.Proofs.Ytahfliboanphkaa
open Go.RowKit
attribute [local go_sem ↓] Go.wp_at_zero Go.wp_at_succ
def InAt (w : World) (a : Option Addr) (l : List Int) : Prop :=
  l = [] ∨ ∃ b o, a = some ⟨b, o, none⟩ ∧ b < w.heap.size ∧ ∀ j (h : j < l.length), w.cell? ⟨b, o + j, none⟩ = some (.int .i64 l[j])
theorem InAt.keep {w w' : World} {a : Option Addr} {l : List Int} (h : InAt w a l) (hb : Below w.heap.size w w') : InAt w' a l := by
  rcases h with h | ⟨b, o, rfl, h1, h2⟩
  · exact .inl h
  · refine .inr ⟨b, o, rfl, Nat.lt_of_lt_of_le h1 hb.size, fun j hj => ?_⟩
    rw [(bcell hb).1 b _ h1]; exact h2 j hj
def before (p : Option Int) (x : Int) : Bool := match p with
  | none => false
  | some q => decide (x ≤ q)
def ascP (lo hi : Int) : Option Int → List Int → Int
  | _, [] => 0
  | p, x :: t => if inR x lo hi = false then 2 else if before p x = true then 9 else ascP lo hi (some x) t
def prevA (l : List Int) (k : Nat) : Option Int := if k = 0 then none else l[k - 1]?
theorem ascP_go {lo hi : Int} {l : List Int} {k : Nat} (hk : k < l.length) (h1 : inR l[k] lo hi = true) (h2 : before (prevA l k) l[k] = false) : ascP lo hi (prevA l (k + 1)) (l.drop (k + 1)) = ascP lo hi (prevA l k) (l.drop k) := by
  rw [List.drop_eq_getElem_cons hk]
  show _ = (if inR l[k] lo hi = false then 2 else if before (prevA l k) l[k] = true then 9 else ascP lo hi (some l[k]) (l.drop (k + 1)))
  rw [h1, h2]
  simp [prevA, List.getElem?_eq_getElem hk]
theorem ascP_range {lo hi : Int} {l : List Int} {k : Nat} (hk : k < l.length) (h1 : inR l[k] lo hi = false) : ascP lo hi (prevA l k) (l.drop k) = 2 := by
  rw [List.drop_eq_getElem_cons hk]
  show (if inR l[k] lo hi = false then 2 else _) = 2
  rw [h1]; rfl
theorem ascP_order {lo hi : Int} {l : List Int} {k : Nat} (hk : k < l.length) (h1 : inR l[k] lo hi = true) (h2 : before (prevA l k) l[k] = true) : ascP lo hi (prevA l k) (l.drop k) = 9 := by
  rw [List.drop_eq_getElem_cons hk]
  show (if inR l[k] lo hi = false then 2 else if before (prevA l k) l[k] = true then 9 else _) = 9
  rw [h1, h2]; rfl
theorem before_zero (l : List Int) (x : Int) : before (prevA l 0) x = false := rfl
theorem before_succ {l : List Int} {k : Nat} (hk : k < l.length) (x : Int) : before (prevA l (k + 1)) x = decide (x ≤ l[k]) := by
  simp [prevA, before, List.getElem?_eq_getElem hk]
def brE (l : List Int) : Int := if inR l.length 2 20 = false then 10 else ascP (-20000) 20000 none l
def AscRel (lo hi : Int) (l : List Int) (w : World) (v : Value) (wr : World) : Prop :=
  ∃ k : Nat, k ≤ l.length ∧ v = .int .i64 (k : Int) ∧ ascP lo hi (prevA l k) (l.drop k) = ascP lo hi none l ∧ Below w.heap.size w wr
set_option maxRecDepth 100000 in
set_option maxHeartbeats 1600000 in
theorem ascent_any (lo hi : Int) (l : List Int) (a : Option Addr) (cap : Nat) (w : World) (hl : l.length ≤ 1000000) (hp : InAt w a l) :
    Calls Try.prog 60 #[.slice a l.length cap, .int .i64 lo, .int .i64 hi] w fun e w' => e = .returned (.int .i64 (ascP lo hi none l)) ∧ Below w.heap.size w w' := by
  have HP := Lib.hid hp; clear hp
  go_enter Try.func60, Try.ntmps60
  go_wp2_with fail
  go_loopw [11] (AscRel lo hi l w) (fun i _ => l.length - (intOf i).toNat)
  case atStart => exact ⟨0, by omega, rfl, rfl, Below.refl _ _⟩
  case round =>
    obtain ⟨k, hk, rfl, hd, hB⟩ := hrel
    have HD := Lib.hid hd; clear hd
    by_cases hkl : k < l.length
    · rcases HP.out.keep hB with h0 | ⟨b, o, rfl, hbl, hc⟩
      · rw [h0] at hkl; simp at hkl
      have i0 : (0 : Int) ≤ (k : Int) := by omega
      have i1 : (k : Int) < (l.length : Int) := by omega
      have c0 := hc k hkl
      cases hr : inR l[k] lo hi
      · have F2 := Lib.hid (ascP_range hkl hr)
        clear hc
        generalize l[k] = x at *
        go_wp2_with (go_at_call 59; refine (between_any _ _ _ _).mono ?_; rintro e w' ⟨rfl, rfl⟩)
        go_ret
        exact ⟨ret_int (by rw [← HD.out, F2.out]), by (repeat' (first | (with_reducible exact Below.refl _ _) | (with_reducible assumption) | (with_reducible refine Below.drew ?_) | (with_reducible refine below_drewN ?_ _) | (with_reducible refine Below.setCell ?_ ?_ _) | (with_reducible refine Below.alloc ?_ ?_ _) | go_size | omega))⟩
      · rcases Nat.eq_zero_or_pos k with hk0 | hpos
        · have G2 := Lib.hid (ascP_go hkl hr (by subst hk0; rfl))
          clear hc
          have hz0 : (k : Int) ≤ 0 := by omega
          clear hk0
          have hz : decide ((0 : Int) < (k : Int)) = false := by simp; omega
          have hz' : decide (0 < k) = false := by simp; omega
          generalize l[k] = x at *
          go_wp2_with (go_at_call 59; refine (between_any _ _ _ _).mono ?_; rintro e w' ⟨rfl, rfl⟩)
          go_roundw
          case rel => exact ⟨k + 1, by omega, by simp, by rw [← HD.out]; exact G2.out, by (repeat' (first | (with_reducible exact Below.refl _ _) | (with_reducible assumption) | (with_reducible refine Below.drew ?_) | (with_reducible refine below_drewN ?_ _) | (with_reducible refine Below.setCell ?_ ?_ _) | (with_reducible refine Below.alloc ?_ ?_ _) | go_size | omega))⟩
          case measure => simp [intOf]; omega
        · obtain ⟨m, rfl⟩ : ∃ m, k = m + 1 := ⟨k - 1, by omega⟩
          have hm : m < l.length := by omega
          have c1 := hc m hm
          have i2 : (0 : Int) ≤ (m : Int) := by omega
          have i3 : (m : Int) < (l.length : Int) := by omega
          clear hc
          by_cases hle : l[m + 1] ≤ l[m]
          · have F9 := Lib.hid (ascP_order hkl hr (by rw [before_succ hm]; simpa using hle))
            generalize l[m + 1] = x at *
            generalize l[m] = y at *
            push_cast at *
            go_wp2_with (go_at_call 59; refine (between_any _ _ _ _).mono ?_; rintro e w' ⟨rfl, rfl⟩)
            go_ret
            exact ⟨ret_int (by rw [← HD.out, F9.out]), by (repeat' (first | (with_reducible exact Below.refl _ _) | (with_reducible assumption) | (with_reducible refine Below.drew ?_) | (with_reducible refine below_drewN ?_ _) | (with_reducible refine Below.setCell ?_ ?_ _) | (with_reducible refine Below.alloc ?_ ?_ _) | go_size | omega))⟩
          · have G2 := Lib.hid (ascP_go hkl hr (by rw [before_succ hm]; simpa using hle))
            generalize l[m + 1] = x at *
            generalize l[m] = y at *
            push_cast at *
            go_wp2_with (go_at_call 59; refine (between_any _ _ _ _).mono ?_; rintro e w' ⟨rfl, rfl⟩)
            go_roundw
            case rel => exact ⟨m + 1 + 1, by omega, by simp, by rw [G2.out]; exact HD.out, by (repeat' (first | (with_reducible exact Below.refl _ _) | (with_reducible assumption) | (with_reducible refine Below.drew ?_) | (with_reducible refine below_drewN ?_ _) | (with_reducible refine Below.setCell ?_ ?_ _) | (with_reducible refine Below.alloc ?_ ?_ _) | go_size | omega))⟩
            case measure => simp [intOf]; omega
    · obtain rfl : k = l.length := by omega
      go_wp2_with fail
      go_ret
      exact ⟨ret_int (by rw [← HD.out, List.drop_length]; rfl), hB⟩
set_option maxRecDepth 100000 in
set_option maxHeartbeats 1600000 in
theorem chkBars_any (l : List Int) (a : Option Addr) (cap : Nat) (w : World) (hl : l.length ≤ 1000000) (hp : InAt w a l) :
    Calls Try.prog 28 #[.slice a l.length cap] w fun e w' => e = .returned (.int .i64 (brE l)) ∧ Below w.heap.size w w' := by
  have HP := Lib.hid hp; clear hp
  have CA := Lib.hid (fun u h => ascent_any (-20000) 20000 l a cap u hl h)
  cases hr : inR l.length 2 20
  all_goals
    have F := Lib.hid (show brE l = if inR l.length 2 20 = false then 10 else ascP (-20000) 20000 none l from rfl)
    have HR := Lib.hid hr
    generalize ascP (-20000) 20000 none l = A at *
    go_enter Try.func28, Try.ntmps28
    go_wp2_with (go_at_call 59; refine (between_any _ _ _ _).mono ?_; rintro e w' ⟨rfl, rfl⟩)
  · go_ret
    exact ⟨ret_int (by rw [F.out, HR.out]; rfl), by (repeat' (first | (with_reducible exact Below.refl _ _) | (with_reducible assumption) | (with_reducible refine Below.drew ?_) | (with_reducible refine below_drewN ?_ _) | (with_reducible refine Below.setCell ?_ ?_ _) | (with_reducible refine Below.alloc ?_ ?_ _) | go_size | omega))⟩
  · refine (CA.out _ HP.out).mono ?_
    rintro e w1 ⟨rfl, h⟩
    go_wp2_with fail
    go_ret
    exact ⟨ret_int (by rw [F.out, HR.out]; rfl), h⟩
set_option maxRecDepth 100000 in
set_option maxHeartbeats 1600000 in
theorem rchkBars_any (l : List Int) (a : Option Addr) (cap : Nat) (w : World) (hl : l.length ≤ 1000000) (hp : InAt w a l) :
    Calls Try.prog 27 #[.slice a l.length cap] w fun e w' => e = .returned (.int .i64 (brE l)) ∧ Below w.heap.size w w' := by
  have HP := Lib.hid hp; clear hp
  cases hr : inR l.length 2 20
  · have F := Lib.hid (show brE l = 10 by unfold brE; rw [hr]; rfl)
    go_enter Try.func27, Try.ntmps27
    go_wp2_with (go_at_call 32; refine (Within_any _ _ _ _).mono ?_; rintro e w' ⟨rfl, rfl⟩)
    go_ret
    exact ⟨ret_int (by rw [F.out]), by (repeat' (first | (with_reducible exact Below.refl _ _) | (with_reducible assumption) | (with_reducible refine Below.drew ?_) | (with_reducible refine below_drewN ?_ _) | (with_reducible refine Below.setCell ?_ ?_ _) | (with_reducible refine Below.alloc ?_ ?_ _) | go_size | omega))⟩
  have F := Lib.hid (show brE l = ascP (-20000) 20000 none l by unfold brE; rw [hr]; rfl)
  go_enter Try.func27, Try.ntmps27
  go_wp2_with (go_at_call 32; refine (Within_any _ _ _ _).mono ?_; rintro e w9 ⟨rfl, hww⟩; obtain rfl : w = w9 := hww.symm)
  clear hr
  go_loopw [3] (AscRel (-20000) 20000 l w) (fun i _ => l.length - (intOf i).toNat)
  case atStart => exact ⟨0, by omega, rfl, rfl, Below.refl _ _⟩
  case round =>
    obtain ⟨k, hk, rfl, hd, hB⟩ := hrel
    have HD := Lib.hid hd; clear hd
    by_cases hkl : k < l.length
    · rcases HP.out.keep hB with h0 | ⟨b, o, rfl, hbl, hc⟩
      · rw [h0] at hkl; simp at hkl
      have i0 : (0 : Int) ≤ (k : Int) := by omega
      have i1 : (k : Int) < (l.length : Int) := by omega
      have c0 := hc k hkl
      cases hr : inR l[k] (-20000) 20000
      · have F2 := Lib.hid (ascP_range hkl hr)
        clear hc
        generalize l[k] = x at *
        go_wp2_with (go_at_call 32; refine (Within_any _ _ _ _).mono ?_; rintro e w' ⟨rfl, rfl⟩)
        go_ret
        exact ⟨ret_int (by rw [F.out]; rw [← HD.out, F2.out]), by (repeat' (first | (with_reducible exact Below.refl _ _) | (with_reducible assumption) | (with_reducible refine Below.drew ?_) | (with_reducible refine below_drewN ?_ _) | (with_reducible refine Below.setCell ?_ ?_ _) | (with_reducible refine Below.alloc ?_ ?_ _) | go_size | omega))⟩
      · rcases Nat.eq_zero_or_pos k with hk0 | hpos
        · have G2 := Lib.hid (ascP_go hkl hr (by subst hk0; rfl))
          clear hc
          have hz0 : (k : Int) ≤ 0 := by omega
          clear hk0
          have hz : decide ((0 : Int) < (k : Int)) = false := by simp; omega
          have hz' : decide (0 < k) = false := by simp; omega
          generalize l[k] = x at *
          go_wp2_with (go_at_call 32; refine (Within_any _ _ _ _).mono ?_; rintro e w' ⟨rfl, rfl⟩)
          go_quiet (fail)
          go_wp2_with fail
          go_roundw
          case rel => exact ⟨k + 1, by omega, by simp, by rw [← HD.out]; exact G2.out, by (repeat' (first | (with_reducible exact Below.refl _ _) | (with_reducible assumption) | (with_reducible refine Below.drew ?_) | (with_reducible refine below_drewN ?_ _) | (with_reducible refine Below.setCell ?_ ?_ _) | (with_reducible refine Below.alloc ?_ ?_ _) | go_size | omega))⟩
          case measure => simp [intOf]; omega
        · obtain ⟨m, rfl⟩ : ∃ m, k = m + 1 := ⟨k - 1, by omega⟩
          have hm : m < l.length := by omega
          have c1 := hc m hm
          have i2 : (0 : Int) ≤ (m : Int) := by omega
          have i3 : (m : Int) < (l.length : Int) := by omega
          clear hc
          by_cases hle : l[m + 1] ≤ l[m]
          · have F9 := Lib.hid (ascP_order hkl hr (by rw [before_succ hm]; simpa using hle))
            generalize l[m + 1] = x at *
            generalize l[m] = y at *
            push_cast at *
            go_wp2_with (go_at_call 32; refine (Within_any _ _ _ _).mono ?_; rintro e w' ⟨rfl, rfl⟩)
            go_quiet (fail)
            go_wp2_with fail
            go_ret
            exact ⟨ret_int (by rw [F.out]; rw [← HD.out, F9.out]), by (repeat' (first | (with_reducible exact Below.refl _ _) | (with_reducible assumption) | (with_reducible refine Below.drew ?_) | (with_reducible refine below_drewN ?_ _) | (with_reducible refine Below.setCell ?_ ?_ _) | (with_reducible refine Below.alloc ?_ ?_ _) | go_size | omega))⟩
          · have G2 := Lib.hid (ascP_go hkl hr (by rw [before_succ hm]; simpa using hle))
            generalize l[m + 1] = x at *
            generalize l[m] = y at *
            push_cast at *
            go_wp2_with (go_at_call 32; refine (Within_any _ _ _ _).mono ?_; rintro e w' ⟨rfl, rfl⟩)
            go_quiet (fail)
            go_wp2_with fail
            go_roundw
            case rel => exact ⟨m + 1 + 1, by omega, by simp, by rw [G2.out]; exact HD.out, by (repeat' (first | (with_reducible exact Below.refl _ _) | (with_reducible assumption) | (with_reducible refine Below.drew ?_) | (with_reducible refine below_drewN ?_ _) | (with_reducible refine Below.setCell ?_ ?_ _) | (with_reducible refine Below.alloc ?_ ?_ _) | go_size | omega))⟩
            case measure => simp [intOf]; omega
    · obtain rfl : k = l.length := by omega
      go_wp2_with fail
      go_ret
      exact ⟨ret_int (by rw [F.out]; rw [← HD.out, List.drop_length]; rfl), hB⟩
theorem infoI : (Try.prog.info? 3).map (fun i => (i.zero, i.size, i.bytes)) = some (some (.int .i64 0), 1, 8) := by kernel_rfl
def inc (l : List Int) : List Value := l.map (Value.int .i64)
theorem inAt_own {w : World} {b cap : Nat} {a : Option Addr} {l : List Int} (h : w.ownsRow b 3 1 (.slice a l.length cap) l.length (inc l)) : InAt w a l := by
  rcases h.2 with ⟨h0, h1⟩ | ⟨g, cap', cur, h0, h1, h2, h3⟩
  · exact .inl (List.length_eq_zero_iff.1 h1)
  · cases h0
    refine .inr ⟨g, 0, rfl, (Array.getElem?_eq_some_iff.1 h2).1, fun j hj => ?_⟩
    have := h.cells rfl j (.int .i64 l[j]) (by unfold inc; rw [List.getElem?_map, List.getElem?_eq_getElem hj]; rfl)
    rw [addr_add] at this
    exact this
set_option maxRecDepth 100000 in
set_option maxHeartbeats 1600000 in
theorem copyInts_any (l : List Int) (a : Option Addr) (cap : Nat) (w : World) (hl : l.length ≤ 400) (hp : InAt w a l) :
    Calls Try.prog 25 #[.slice a l.length cap] w fun e w' => (∃ a' cap', e = .returned (.slice a' l.length cap') ∧ InAt w' a' l) ∧ Below w.heap.size w w' := by
  obtain ⟨i0, hi0, hz0, hz1, hz2⟩ := info_parts infoI
  by_cases hl0 : l = []
  · subst hl0
    have hsrc : ∀ u : World, Src Try.prog i0.size 47 (.slice a 0 cap) 0 [] u := fun u => by
      cases a with
      | none => exact Src.ofNil u Try.underlying47 cap
      | some x => exact Src.ofSlice u Try.underlying47 x 0 cap [] (by simp) (by simp) (by simp)
    have AP : ∀ (u : World) (ty : TypeId) (B : Nat), (Builtin.append_ #[47, 47] ty #[.slice (some ⟨B, 0, none⟩) 0 0, .slice a 0 cap]).run Try.prog u = .ok (.slice (some ⟨B, 0, none⟩) 0 0) u := fun u ty B =>
      run_append_nothing u 47 47 ty 3 i0 Try.underlying47 hi0 (some ⟨B, 0, none⟩) 0 0 (by omega) _ (hsrc u)
    go_enter Try.func25, Try.ntmps25
    go_wp2_with (at_builtin; refine wpList_nothing rfl _ _ _ _ rfl _ _ rfl rfl (AP _ _ _) ?_)
    go_ret
    exact ⟨⟨_, _, rfl, .inl rfl⟩, by (repeat' (first | (with_reducible exact Below.refl _ _) | (with_reducible assumption) | (with_reducible refine Below.drew ?_) | (with_reducible refine below_drewN ?_ _) | (with_reducible refine Below.setCell ?_ ?_ _) | (with_reducible refine Below.alloc ?_ ?_ _) | go_size | omega))⟩
  · obtain ⟨b, o, rfl, hb, hc⟩ : ∃ b o, a = some ⟨b, o, none⟩ ∧ b < w.heap.size ∧ ∀ j (h : j < l.length), w.cell? ⟨b, o + j, none⟩ = some (.int .i64 l[j]) := by
      rcases hp with h | h
      · exact absurd h hl0
      · exact h
    have hn : 0 < l.length := List.length_pos_iff.2 hl0
    have c1 : ∀ j u, (inc l)[j]? = some u → (w.alloc (.cells #[] 3)).cell? ((⟨b, o, none⟩ : Addr).add j) = some u := fun j u hu => by
      unfold inc at hu
      rw [List.getElem?_map] at hu
      by_cases hj : j < l.length
      · rw [List.getElem?_eq_getElem hj] at hu
        simp at hu
        rw [addr_add, ← hu]
        exact (World.cell?_alloc_past _ _ _ hb).trans (hc j hj)
      · rw [List.getElem?_eq_none (by omega)] at hu; simp at hu
    have hlen : (inc l).length = l.length * 1 := by unfold inc; simp
    have hone : ∀ u ∈ inc l, u.oneCell' = true := by
      intro u hu
      unfold inc at hu
      obtain ⟨x, -, rfl⟩ := List.mem_map.1 hu
      rfl
    have HC := Lib.hid (And.intro c1 (And.intro hlen hone))
    clear hc hp hl0 c1 hlen hone
    go_enter Try.func25, Try.ntmps25
    go_wp2_with (at_builtin; refine wpList_append_grows _ rfl _ _ 47 rfl 3 i0 _ 1 8 Try.underlying47 hi0 hz0 hz1 hz2 rfl (by omega) (some ⟨w.heap.size, 0, none⟩) 0 0 [] rfl (by intro e; cases e) rfl (by intro _ _ j u hu; simp at hu) ⟨b, o, none⟩ l.length cap (inc l) rfl HC.out.2.1 HC.out.1 HC.out.2.2 (by omega) (by unfold maxLen; omega) (by omega) ?_; intro v' w' hown hgrow)
    obtain ⟨g, c', rfl, hg0, hg1⟩ := hown.form (by omega)
    have B1 : Below w.heap.size w w' := Below.grown (by (repeat' (first | (with_reducible exact Below.refl _ _) | (with_reducible assumption) | (with_reducible refine Below.drew ?_) | (with_reducible refine below_drewN ?_ _) | (with_reducible refine Below.setCell ?_ ?_ _) | (with_reducible refine Below.alloc ?_ ?_ _) | go_size | omega))) hgrow (by simp) (fun k e => by cases e)
    have hpl : InAt w' (some ⟨g, 0, none⟩) l := inAt_own (b := (w.alloc (.cells #[] 3)).heap.size) (cap := c') (by simpa using hown)
    go_wp2_with fail
    go_ret
    exact ⟨⟨_, c', by simp, hpl⟩, B1⟩
end Go.Proofs.Ytahfliboanphkaa
