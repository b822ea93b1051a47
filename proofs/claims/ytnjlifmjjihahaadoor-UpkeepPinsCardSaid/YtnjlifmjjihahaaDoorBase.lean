/-
  The small words of all walks of this seat: endings, worlds that only drew, and the contracts of the functions on single numbers (size, within, commonDivisor, Gcd, Abs, Within, dividedDown, Floor, Ceil, Mod). No condition but the ranges of the arguments.
-/
import Derived.Test.YtnjlifmjjihahaaDoorRows
import Derived.WalkKit
import Derived.WalkSpells
import Derived.WalkLawsBesides
import Derived.Handy
import Derived.Lib.Hide
import Derived.Deep.QuietTactic
import Derived.BigQuiet
import Derived.Deep.RegionWith
namespace Go.Proofs.YtnjlifmjjihahaaDoor
open Go.RowKit

theorem ret_int {k : IntKind} {a b : Int} (h : a = b) : Ending.returned (.int k a) = .returned (.int k b) := by rw [h]
theorem ret_bool {a b : Bool} (h : a = b) : Ending.returned (.bool a) = .returned (.bool b) := by rw [h]
theorem below_drewN {B : Nat} {a w : World} (h : Below B a w) (n : Nat) : Below B a (w.drewN n) := ⟨h.os, h.tape, h.output, h.size, h.block⟩
def Drew (w w' : World) : Prop := ∃ m, w' = w.drewN m
theorem Drew.refl (w : World) : Drew w w := ⟨0, rfl⟩
theorem Drew.more {w w' : World} (h : Drew w w') (n : Nat) : Drew w (w'.drewN n) := by
  obtain ⟨m, rfl⟩ := h; exact ⟨m + n, by rw [World.drewN_drewN]⟩
theorem Drew.below {w w' : World} (h : Drew w w') (B : Nat) : Below B w w' := by
  obtain ⟨m, rfl⟩ := h; exact below_drewN (Below.refl _ _) _
theorem bcell {W w1 : World} (hb : Below W.heap.size W w1) : (∀ b o, b < W.heap.size → w1.cell? ⟨b, o, none⟩ = W.cell? ⟨b, o, none⟩) ∧ (∀ b o, b < W.heap.size → w1.frozen? ⟨b, o, none⟩ = W.frozen? ⟨b, o, none⟩) :=
  ⟨fun b o h => hb.cell (p := ⟨b, o, none⟩) h, fun b o h => hb.frozen (p := ⟨b, o, none⟩) h⟩
theorem q_of {P : Program} {f : FuncId} {args : Array Value} {w : World} {n : Nat} {v : Value}
    (h : Calls P f args (w.drewN n) fun e w' => e = .returned v ∧ Drew (w.drewN n) w') : Calls P f args (w.drewN n) fun e w'' => e = .returned v ∧ ∃ m, w'' = w.drewN m := Calls.quiet_of h
theorem q_same {P : Program} {f : FuncId} {args : Array Value} {w : World} {n : Nat} {v : Value}
    (h : Calls P f args (w.drewN n) fun e w' => e = .returned v ∧ w' = w.drewN n) : Calls P f args (w.drewN n) fun e w'' => e = .returned v ∧ ∃ m, w'' = w.drewN m := Calls.quiet_of_same h

theorem below_via {w u w' : World} (h1 : Below w.heap.size w u) (h2 : Below u.heap.size u w') : Below w.heap.size w w' := h1.trans (h2.mono h1.size)
/-- a block that is known whole: one that the call itself has laid -/
def Box (w : World) (b : Nat) (cs : Array Value) (t : TypeId) : Prop := w.heap[b]? = some (.cells cs t (0, 0))
theorem Box.cell {w : World} {b : Nat} {cs : Array Value} {t : TypeId} (h : Box w b cs t) (j : Nat) : w.cell? ⟨b, j, none⟩ = cs[j]? := cell_of_row w b j cs t (0, 0) h
theorem Box.free {w : World} {b : Nat} {cs : Array Value} {t : TypeId} (h : Box w b cs t) (j : Nat) : w.frozen? ⟨b, j, none⟩ = false := frozen_of_row w b j cs t h
theorem Box.lt {w : World} {b : Nat} {cs : Array Value} {t : TypeId} (h : Box w b cs t) : b < w.heap.size := by
  rcases Nat.lt_or_ge b w.heap.size with h' | h'
  · exact h'
  · unfold Box at h; rw [Array.getElem?_eq_none h'] at h; cases h
theorem Box.keep {u w1 : World} {b : Nat} {cs : Array Value} {t : TypeId} (h : Box u b cs t) (hb : Below u.heap.size u w1) : Box w1 b cs t := (hb.block b h.lt).trans h
theorem Box.alloc {w : World} {b : Nat} {cs : Array Value} {t : TypeId} (h : Box w b cs t) (o : Obj) : Box (w.alloc o) b cs t := (Below.heap_alloc w o b h.lt).trans h
theorem Box.new (w : World) (cs : Array Value) (t : TypeId) {n : Nat} (hn : n = w.heap.size) : Box (w.alloc (.cells cs t)) n cs t := by subst hn; exact heap_alloc_new w _
theorem Box.drewN {w : World} {b : Nat} {cs : Array Value} {t : TypeId} (h : Box w b cs t) (n : Nat) : Box (w.drewN n) b cs t := h
theorem Box.drew {w : World} {b : Nat} {cs : Array Value} {t : TypeId} (h : Box w b cs t) : Box w.drew b cs t := h
theorem Box.other {w : World} {b : Nat} {cs : Array Value} {t : TypeId} (h : Box w b cs t) (a : Addr) (u : Value) (hn : b ≠ a.block) : Box (w.setCell a u) b cs t := (Below.heap_setCell w a u b hn).trans h
theorem Box.set {w : World} {b : Nat} {cs : Array Value} {t : TypeId} (h : Box w b cs t) (j : Nat) (u : Value) : Box (w.setCell ⟨b, j, none⟩ u) b (cs.setIfInBounds j u) t := heap_setCell_same w b j cs t u h
theorem Box.four {w : World} {b : Nat} {x0 x1 x2 x3 : Value} {t : TypeId} (h : Box w b #[x0, x1, x2, x3] t) : w.cell? ⟨b, 0, none⟩ = some x0 ∧ w.cell? ⟨b, 1, none⟩ = some x1 ∧ w.cell? ⟨b, 2, none⟩ = some x2 ∧ w.cell? ⟨b, 3, none⟩ = some x3 ∧ w.frozen? ⟨b, 0, none⟩ = false ∧ w.frozen? ⟨b, 1, none⟩ = false ∧ w.frozen? ⟨b, 2, none⟩ = false ∧ w.frozen? ⟨b, 3, none⟩ = false :=
  ⟨h.cell 0, h.cell 1, h.cell 2, h.cell 3, h.free 0, h.free 1, h.free 2, h.free 3⟩
theorem Box.three {w : World} {b : Nat} {x0 x1 x2 : Value} {t : TypeId} (h : Box w b #[x0, x1, x2] t) : w.cell? ⟨b, 0, none⟩ = some x0 ∧ w.cell? ⟨b, 1, none⟩ = some x1 ∧ w.cell? ⟨b, 2, none⟩ = some x2 ∧ w.frozen? ⟨b, 0, none⟩ = false ∧ w.frozen? ⟨b, 1, none⟩ = false ∧ w.frozen? ⟨b, 2, none⟩ = false :=
  ⟨h.cell 0, h.cell 1, h.cell 2, h.free 0, h.free 1, h.free 2⟩
theorem Box.two {w : World} {b : Nat} {x0 x1 : Value} {t : TypeId} (h : Box w b #[x0, x1] t) : w.cell? ⟨b, 0, none⟩ = some x0 ∧ w.cell? ⟨b, 1, none⟩ = some x1 ∧ w.frozen? ⟨b, 0, none⟩ = false ∧ w.frozen? ⟨b, 1, none⟩ = false :=
  ⟨h.cell 0, h.cell 1, h.free 0, h.free 1⟩
theorem Box.one {w : World} {b : Nat} {x0 : Value} {t : TypeId} (h : Box w b #[x0] t) : w.cell? ⟨b, 0, none⟩ = some x0 ∧ w.frozen? ⟨b, 0, none⟩ = false :=
  ⟨h.cell 0, h.free 0⟩

/-- the size of a number -/
def sz (n : Int) : Int := n.natAbs
theorem sz_nonneg (n : Int) : 0 ≤ sz n := by unfold sz; omega
theorem sz_le {n m : Int} (h0 : -m ≤ n) (h1 : n ≤ m) : sz n ≤ m := by unfold sz; omega
def gcdI (a b : Int) : Int := (Int.gcd a b : Int)
theorem gcdI_nonneg (a b : Int) : 0 ≤ gcdI a b := by unfold gcdI; omega
theorem gcdI_sz (a b : Int) : gcdI (sz a) (sz b) = gcdI a b := by
  unfold gcdI sz; show ((Nat.gcd _ _ : Nat) : Int) = (Nat.gcd _ _ : Nat); simp

def inR (n lo hi : Int) : Bool := decide (lo ≤ n ∧ n ≤ hi)
def inB (n m : Int) : Bool := decide (-m ≤ n ∧ n ≤ m)
set_option maxHeartbeats 400000 in
theorem between_any (n lo hi : Int) (w : World) :
    Calls Tryd.prog 110 #[.int .i64 n, .int .i64 lo, .int .i64 hi] w fun e w' => e = .returned (.bool (inR n lo hi)) ∧ w' = w := by
  go_enter Tryd.func110, Tryd.ntmps110
  go_wp2
  all_goals go_ret
  all_goals refine ⟨ret_bool ?_, rfl⟩
  · unfold inR; rw [Bool.eq_iff_iff]; simp; omega
  · unfold inR; rw [Bool.eq_iff_iff]; simp; omega
set_option maxHeartbeats 400000 in
theorem within_any (n m : Int) (w : World) (h0 : 0 ≤ m) (h1 : m ≤ 9223372036854775807) :
    Calls Tryd.prog 87 #[.int .i64 n, .int .i64 m] w fun e w' => e = .returned (.bool (inB n m)) ∧ w' = w := by
  go_enter Tryd.func87, Tryd.ntmps87
  go_wp2_with (go_at_call 110; refine (between_any _ _ _ _).mono ?_; rintro e w' ⟨rfl, rfl⟩)
  go_ret
  exact ⟨rfl, rfl⟩

set_option maxHeartbeats 400000 in
theorem Within_any (n lo hi : Int) (w : World) :
    Calls Tryd.prog 44 #[.int .i64 n, .int .i64 lo, .int .i64 hi] w fun e w' => e = .returned (.bool (inR n lo hi)) ∧ w' = w := by
  go_enter Tryd.func44, Tryd.ntmps44
  go_wp2
  all_goals go_ret
  all_goals refine ⟨ret_bool ?_, rfl⟩
  · unfold inR; rw [Bool.eq_iff_iff]; simp; omega
  · unfold inR; rw [Bool.eq_iff_iff]; simp; omega

def GcdRel (a b : Nat) (w : World) (v0 v1 : Value) (wr : World) : Prop :=
  ∃ x y : Nat, x < 18446744073709551616 ∧ y < 18446744073709551616 ∧ v0 = .int .u64 x ∧ v1 = .int .u64 y ∧ Nat.gcd x y = Nat.gcd a b ∧ Drew w wr

theorem Abs_any (n : Int) (w : World) (h0 : -9223372036854775807 ≤ n) (h1 : n ≤ 9223372036854775807) :
    Calls Tryd.prog 90 #[.int .i64 n] w fun e w' => e = .returned (.int .i64 (sz n)) ∧ w' = w := by
  by_cases h : n < 0
  all_goals
    go_enter Tryd.func90, Tryd.ntmps90
    go_wp2
    go_ret
    refine ⟨ret_int ?_, rfl⟩
    unfold sz
    omega

def GcdRelI (a b : Int) (w : World) (v0 v1 : Value) (wr : World) : Prop :=
  ∃ x y : Int, -9223372036854775808 ≤ x ∧ x ≤ 9223372036854775807 ∧ -9223372036854775808 ≤ y ∧ y ≤ 9223372036854775807 ∧ v0 = .int .i64 x ∧ v1 = .int .i64 y ∧ Int.gcd x y = Int.gcd a b ∧ Drew w wr

theorem gcd_tmod (x y : Int) : Int.gcd y (x.tmod y) = Int.gcd x y := by
  rw [Int.gcd_comm x y]
  show Nat.gcd _ _ = Nat.gcd _ _
  rw [Int.natAbs_tmod]
  rw [Nat.gcd_comm, ← Nat.gcd_rec]

/-- division rounded down -/
def dn (n d : Int) : Int := n / d
theorem dn_bd {n d m : Int} (hd : 1 ≤ d) (h0 : -m ≤ n) (h1 : n ≤ m) (hm : 0 ≤ m) : -m ≤ dn n d ∧ dn n d ≤ m := by
  unfold dn
  constructor
  · exact (Int.le_ediv_iff_mul_le (by omega)).2 (by have : m * 1 ≤ m * d := Int.mul_le_mul_of_nonneg_left hd hm; rw [Int.neg_mul]; omega)
  · have h2 : n / d ≤ m / d := Int.ediv_le_ediv (by omega) h1
    have h3 : m / d ≤ m := Int.ediv_le_self _ hm
    omega
theorem tdiv_tmod_dn (n d : Int) (hd : 1 ≤ d) : dn n d = if n.tmod d < 0 then n.tdiv d - 1 else n.tdiv d := by
  unfold dn
  rcases Int.lt_or_le n 0 with h | h
  · have e1 : n.tmod d = n - d * n.tdiv d := Int.tmod_def n d
    have e3 : n % d = n - d * (n / d) := Int.emod_def n d
    have e4 := Int.emod_nonneg n (show d ≠ 0 by omega)
    have e5 := Int.emod_lt_of_pos n (show 0 < d by omega)
    by_cases hz : n.tmod d < 0
    · rw [if_pos hz]
      have e6 : n.tdiv d = n / d + 1 := by
        rw [Int.tdiv_eq_ediv]
        have : ¬ (0 ≤ n ∨ d ∣ n) := by
          rintro (h' | h')
          · omega
          · have := Int.tmod_eq_zero_of_dvd h'; omega
        rw [if_neg this]; rw [Int.sign_eq_one_of_pos (by omega)]
      omega
    · rw [if_neg hz]
      have h0 : n.tmod d = 0 := by
        have := Int.tmod_nonneg d (show 0 ≤ -n by omega)
        rw [Int.neg_tmod] at this
        omega
      rw [Int.tdiv_eq_ediv_of_dvd (Int.dvd_of_tmod_eq_zero h0)]
  · rw [if_neg (by have := Int.tmod_nonneg d h; omega), Int.tdiv_eq_ediv_of_nonneg h]

set_option maxHeartbeats 400000 in
theorem dn_any (n d : Int) (w : World) (h0 : -9223372036854775807 ≤ n) (h1 : n ≤ 9223372036854775807) (hd : 1 ≤ d) (hd' : d ≤ 9223372036854775807) :
    Calls Tryd.prog 81 #[.int .i64 n, .int .i64 d] w fun e w' => e = .returned (.int .i64 (dn n d)) ∧ w' = w := by
  have he := tdiv_tmod_dn n d hd
  have hb := dn_bd hd h0 h1 (by omega)
  have HE := Lib.hid he; clear he
  have hb1 := hb.1
  have hb2 := hb.2
  clear hb
  go_enter Tryd.func81, Tryd.ntmps81
  go_wp2
  · go_ret
    refine ⟨ret_int ?_, rfl⟩
    have hlt : n.tmod d < 0 := by assumption
    have he := HE.out
    rw [if_pos hlt] at he
    first | (rw [IntWalk.wrap64_in _ ⟨by omega, by omega⟩]; omega) | (show n.tdiv d - 1 = _; omega)
  · go_ret
    refine ⟨ret_int ?_, rfl⟩
    have hlt : 0 ≤ n.tmod d := by assumption
    have he := HE.out
    rw [if_neg (by omega)] at he
    omega

set_option maxHeartbeats 400000 in
theorem Floor_any (n d : Int) (w : World) (h0 : -9223372036854775807 ≤ n) (h1 : n ≤ 9223372036854775807) (hd : 1 ≤ d) (hd' : d ≤ 9223372036854775807) :
    Calls Tryd.prog 89 #[.int .i64 n, .int .i64 d] w fun e w' => e = .returned (.int .i64 (dn n d)) ∧ w' = w := by
  have he := tdiv_tmod_dn n d hd
  have hb := dn_bd hd h0 h1 (by omega)
  have HE := Lib.hid he; clear he
  have hb1 := hb.1
  have hb2 := hb.2
  clear hb
  go_enter Tryd.func89, Tryd.ntmps89
  go_wp2
  · go_ret
    refine ⟨ret_int ?_, rfl⟩
    have hlt : n.tmod d < 0 := by assumption
    have he := HE.out
    rw [if_pos hlt] at he
    first | (rw [IntWalk.wrap64_in _ ⟨by omega, by omega⟩]; omega) | (show n.tdiv d - 1 = _; omega)
  · go_ret
    refine ⟨ret_int ?_, rfl⟩
    have hlt : 0 ≤ n.tmod d := by assumption
    have he := HE.out
    rw [if_neg (by omega)] at he
    omega

/-- division rounded up -/
def up (n d : Int) : Int := -dn (-n) d
set_option maxHeartbeats 400000 in
theorem Ceil_any (n d : Int) (w : World) (h0 : -9223372036854775807 ≤ n) (h1 : n ≤ 9223372036854775807) (hd : 1 ≤ d) (hd' : d ≤ 9223372036854775807) :
    Calls Tryd.prog 74 #[.int .i64 n, .int .i64 d] w fun e w' => e = .returned (.int .i64 (up n d)) ∧ w' = w := by
  have hb := dn_bd hd (show -9223372036854775807 ≤ -n by omega) (show -n ≤ 9223372036854775807 by omega) (by omega)
  have hb1 := hb.1
  have hb2 := hb.2
  clear hb
  go_enter Tryd.func74, Tryd.ntmps74
  go_wp2_with (go_at_call 89; refine (Floor_any _ _ _ (by omega) (by omega) hd hd').mono ?_; rintro e w' ⟨rfl, rfl⟩)
  go_ret
  exact ⟨ret_int (by unfold up; omega), rfl⟩

theorem tdiv_tmod_up (n d : Int) (hd : 1 ≤ d) : up n d = if 0 < n.tmod d then n.tdiv d + 1 else n.tdiv d := by
  unfold up
  rw [tdiv_tmod_dn (-n) d hd, Int.neg_tmod, Int.neg_tdiv]
  by_cases h : 0 < n.tmod d
  · rw [if_pos (by omega), if_pos h]; omega
  · rw [if_neg (by omega), if_neg h]; omega
theorem up_bd {n d m : Int} (hd : 1 ≤ d) (h0 : -m ≤ n) (h1 : n ≤ m) (hm : 0 ≤ m) : -m ≤ up n d ∧ up n d ≤ m := by
  have h := dn_bd (n := -n) (m := m) hd (by omega) (by omega) hm
  unfold up; omega
set_option maxHeartbeats 400000 in
theorem up_any (n d : Int) (w : World) (h0 : -9223372036854775807 ≤ n) (h1 : n ≤ 9223372036854775807) (hd : 1 ≤ d) (hd' : d ≤ 9223372036854775807) :
    Calls Tryd.prog 72 #[.int .i64 n, .int .i64 d] w fun e w' => e = .returned (.int .i64 (up n d)) ∧ w' = w := by
  have he := tdiv_tmod_up n d hd
  have hb := up_bd hd h0 h1 (by omega)
  have HE := Lib.hid he; clear he
  have hb1 := hb.1
  have hb2 := hb.2
  clear hb
  go_enter Tryd.func72, Tryd.ntmps72
  go_wp2
  · go_ret
    refine ⟨ret_int ?_, rfl⟩
    have hlt : 0 < n.tmod d := by assumption
    have he := HE.out
    rw [if_pos hlt] at he
    first | (rw [IntWalk.wrap64_in _ ⟨by omega, by omega⟩]; omega) | (show n.tdiv d + 1 = _; omega)
  · go_ret
    refine ⟨ret_int ?_, rfl⟩
    have hlt : n.tmod d ≤ 0 := by assumption
    have he := HE.out
    rw [if_neg (by omega)] at he
    omega

end Go.Proofs.YtnjlifmjjihahaaDoor
