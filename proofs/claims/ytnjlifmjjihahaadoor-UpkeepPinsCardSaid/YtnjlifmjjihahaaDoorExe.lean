/-
  The error of an explanation: (outcome).explanationError at signatures s, failed tests f and a set of notes. Condition: the set's numbers are notes; the numbers fit in 64 bits.
-/
import Derived.Test.YtnjlifmjjihahaaDoorNot
import Derived.Laws.BitsAllLaws
namespace Go.Proofs.YtnjlifmjjihahaaDoor
open Go.RowKit
attribute [local go_sem ↓] Go.wp_at_zero Go.wp_at_succ
/-- the 89 cells of an outcome -/
def ogc (s : Nat → Nat) (f : Nat) : Array Value := (sgc s).push (.int .u64 (f : Int))
theorem ogc_at (s : Nat → Nat) (f n : Nat) (hn : n < 88) : (ogc s f)[n]? = some (.int .u64 (s n : Int)) := by
  unfold ogc; rw [Array.getElem?_push, if_neg (by rw [sgc_size]; omega)]; simp [sgc, hn]
theorem ogc_f (s : Nat → Nat) (f : Nat) : (ogc s f)[88]? = some (.int .u64 (f : Int)) := by
  unfold ogc; rw [Array.getElem?_push, if_pos (by rw [sgc_size])]
def orA (s : Nat → Nat) (l : List Int) : Nat := l.foldl (fun a n => a ||| s n.toNat) 0
def xoA (s : Nat → Nat) (l : List Int) : Nat := l.foldl (fun a n => a ^^^ s n.toNat) 0
theorem orA_snoc (s : Nat → Nat) (l : List Int) (x : Int) : orA s (l ++ [x]) = orA s l ||| s x.toNat := by unfold orA; rw [List.foldl_append]; rfl
theorem xoA_snoc (s : Nat → Nat) (l : List Int) (x : Int) : xoA s (l ++ [x]) = xoA s l ^^^ s x.toNat := by unfold xoA; rw [List.foldl_append]; rfl
def anN (a b : Nat) : Nat := a &&& (18446744073709551615 - b)
/-- the error of an explanation -/
def exE (s : Nat → Nat) (f : Nat) (l : List Int) : Int := if anN f (orA s l) ≠ 0 then 14 else if anN (xoA s l) f ≠ 0 then 13 else 0
def NatB (s : Nat → Nat) : Prop := ∀ n, s n < 18446744073709551616
theorem orA_lt {s : Nat → Nat} (hs : NatB s) (l : List Int) : orA s l < 18446744073709551616 := by
  have : ∀ (l : List Int) (a : Nat), a < 18446744073709551616 → l.foldl (fun a n => a ||| s n.toNat) a < 18446744073709551616 := fun l => by
    induction l with
    | nil => intro a h; exact h
    | cons x l ih => intro a h; exact ih _ (Nat.or_lt_two_pow (n := 64) h (hs _))
  exact this l 0 (by decide)
theorem xoA_lt {s : Nat → Nat} (hs : NatB s) (l : List Int) : xoA s l < 18446744073709551616 := by
  have : ∀ (l : List Int) (a : Nat), a < 18446744073709551616 → l.foldl (fun a n => a ^^^ s n.toNat) a < 18446744073709551616 := fun l => by
    induction l with
    | nil => intro a h; exact h
    | cons x l ih => intro a h; exact ih _ (Nat.xor_lt_two_pow (n := 64) h (hs _))
  exact this l 0 (by decide)
theorem take_snocI {l : List Int} {k : Nat} (h : k < l.length) : l.take (k + 1) = l.take k ++ [l[k]] := by
  rw [List.take_succ_eq_append_getElem h]
/-- a set of notes at a slice -/
def SetAt (w : World) (a : Option Addr) (l : List Int) : Prop := l = [] ∨ ∃ b o, a = some ⟨b, o, none⟩ ∧ b < w.heap.size ∧ ∀ j (h : j < l.length), w.cell? ⟨b, o + j, none⟩ = some (.int .i64 l[j])
set_option maxRecDepth 100000 in
set_option maxHeartbeats 1600000 in
theorem exErr_any (s : Nat → Nat) (f cap : Nat) (a : Option Addr) (l : List Int) (w : World) (hs : NatB s) (hf : f < 18446744073709551616) (hl : l.length ≤ 100) (hn : ∀ j (h : j < l.length), 0 ≤ l[j] ∧ l[j] ≤ 87)
    (hc : SetAt w a l) :
    Calls Tryd.prog 102 #[.agg (ogc s f), .slice a l.length cap] w fun e w' => e = .returned (.int .i64 (exE s f l)) ∧ Below w.heap.size w w' := by
  have HC := Lib.hid hc; have HN := Lib.hid hn; clear hc hn
  go_enter Tryd.func102, Tryd.ntmps102
  go_wp2
  have S0 := Lib.hid (Box.new w (ogc s f) 138 (n := w.heap.size) rfl)
  have B0 : Below w.heap.size w (w.alloc (.cells (ogc s f) 138)) := by (repeat' (first | (with_reducible exact Below.refl _ _) | (with_reducible assumption) | (with_reducible refine Below.drew ?_) | (with_reducible refine below_drewN ?_ _) | (with_reducible refine Below.setCell ?_ ?_ _) | (with_reducible refine Below.alloc ?_ ?_ _) | go_size | omega))
  generalize (w.alloc (.cells (ogc s f) 138)) = u at *
  go_loop [5, 6, 11] (fun x y i => ∃ k : Nat, k ≤ l.length ∧ i = .int .i64 k ∧ ∃ p q : Nat, Hid (orA s (l.take k) = p ∧ xoA s (l.take k) = q) ∧ x = .int .u64 p ∧ y = .int .u64 q) (fun _ _ i => l.length - (intOf i).toNat)
  case atStart => exact ⟨0, by omega, rfl, 0, 0, Lib.hid ⟨rfl, rfl⟩, rfl, rfl⟩
  case round =>
    obtain ⟨k, hk, rfl, p, q, HPQ, rfl, rfl⟩ := hrel
    have hp : p < 18446744073709551616 := by rw [← HPQ.out.1]; exact orA_lt hs _
    have hq : q < 18446744073709551616 := by rw [← HPQ.out.2]; exact xoA_lt hs _
    by_cases hlt : k < l.length
    · have hsome : ∃ b o, a = some ⟨b, o, none⟩ ∧ b < w.heap.size ∧ w.cell? ⟨b, o + k, none⟩ = some (.int .i64 l[k]) := by
        rcases HC.out with h | ⟨b, o, h1, h2, h3⟩
        · subst h; simp at hlt
        · exact ⟨b, o, h1, h2, h3 k hlt⟩
      obtain ⟨b, o, rfl, hb, hck⟩ := hsome
      have hck := (B0.cell (p := ⟨b, o + k, none⟩) hb).trans hck
      have hbl : b < u.heap.size := Nat.lt_of_lt_of_le hb B0.size
      have HX := Lib.hid (show ∃ x : Nat, l[k] = (x : Int) ∧ x < 88 from ⟨l[k].toNat, by have := HN.out k hlt; omega, by have := HN.out k hlt; omega⟩)
      obtain ⟨x, hx, hx88⟩ := HX.out
      rw [hx] at hck
      have hsx : u.cell? ⟨w.heap.size, x, none⟩ = some (.int .u64 (s x : Int)) := by rw [S0.out.cell x]; exact ogc_at s f x hx88
      have HO : Hid (orA s (l.take (k + 1)) = p ||| s x ∧ xoA s (l.take (k + 1)) = q ^^^ s x) := Lib.hid ⟨by rw [take_snocI hlt, orA_snoc, HPQ.out.1, hx]; rfl, by rw [take_snocI hlt, xoA_snoc, HPQ.out.2, hx]; rfl⟩
      have hHX := Lib.hid hx; clear hx HX
      have hsb := hs x
      go_wp2
      go_round
      case rel => exact ⟨k + 1, by omega, by go_num, p ||| s x, q ^^^ s x, HO, by rw [u64_or_nat _ _ hp hsb], by rw [u64_xor_nat _ _ hq hsb]⟩
      case measure => simp [intOf]; omega
    · obtain rfl : k = l.length := by omega
      have hof : u.cell? ⟨w.heap.size, 88, none⟩ = some (.int .u64 (f : Int)) := by rw [S0.out.cell 88]; exact ogc_f s f
      have n1 : bits .andNot .u64 (f : Int) (p : Int) = ((anN f p : Nat) : Int) := u64_andNot_nat _ _ hf hp
      have n2 : bits .andNot .u64 (q : Int) (f : Int) = ((anN q f : Nat) : Int) := u64_andNot_nat _ _ hq hf
      have HE : Hid (exE s f l = if anN f p ≠ 0 then 14 else if anN q f ≠ 0 then 13 else 0) := Lib.hid (by
        have h1 := HPQ.out.1; have h2 := HPQ.out.2; rw [List.take_length] at h1 h2; unfold exE; rw [h1, h2])
      by_cases z1 : anN f p = 0
      · have z1' : ((anN f p : Nat) : Int) = 0 := by rw [z1]; rfl
        by_cases z2 : anN q f = 0
        · have z2' : ((anN q f : Nat) : Int) = 0 := by rw [z2]; rfl
          rw [z1'] at n1; rw [z2'] at n2
          have Z1 := Lib.hid z1; have Z2 := Lib.hid z2; clear z1 z2 z1' z2'
          go_wp2
          go_ret
          exact ⟨ret_int (by rw [HE.out, Z1.out, Z2.out]; rfl), B0⟩
        · have z2' : (((anN q f : Nat) : Int) != 0) = true := by simpa using z2
          rw [z1'] at n1
          have Z1 := Lib.hid z1; have Z2 := Lib.hid z2; clear z1 z2 z1'
          go_wp2
          go_ret
          exact ⟨ret_int (by rw [HE.out, Z1.out]; simp [Z2.out]), B0⟩
      · have z1' : (((anN f p : Nat) : Int) != 0) = true := by simpa using z1
        have Z1 := Lib.hid z1; clear z1
        go_wp2
        go_ret
        exact ⟨ret_int (by rw [HE.out]; simp [Z1.out]), B0⟩
end Go.Proofs.YtnjlifmjjihahaaDoor
