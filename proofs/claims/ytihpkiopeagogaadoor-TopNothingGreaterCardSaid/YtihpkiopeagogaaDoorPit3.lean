/-
  The walk of sides: a product of powers of 2, 3 and 5 as two natural numbers.
-/
import Derived.Test.YtihpkiopeagogaaDoorPit2
namespace Go.Proofs.YtihpkiopeagogaaDoor
open Go.RowKit

/-- the two sides of a product of powers -/
def pw (p : Nat) (e : Int) : Nat := p ^ e.toNat
def over (a b c : Int) : Nat := pw 2 a * pw 3 b * pw 5 c
def under (a b c : Int) : Nat := over (-a) (-b) (-c)
def SidesPost (a b c : Int) (w : World) (e : Ending) (w' : World) : Prop :=
  ∃ (g cap g' cap' : Nat) (xs ys : List Nat), e = .returned (.tuple #[.slice (some ⟨g, 0, none⟩) xs.length cap, .slice (some ⟨g', 0, none⟩) ys.length cap']) ∧
    w'.ownsRow w.heap.size 55 1 (.slice (some ⟨g, 0, none⟩) xs.length cap) xs.length (xs.map wd) ∧ w'.ownsRow w.heap.size 55 1 (.slice (some ⟨g', 0, none⟩) ys.length cap') ys.length (ys.map wd) ∧
    Nats.Norm xs ∧ Nats.Norm ys ∧ Nats.val xs = over a b c ∧ Nats.val ys = under a b c ∧ xs.length ≤ 1073741824 ∧ ys.length ≤ 1073741824 ∧ Below w.heap.size w w'

theorem lit_own (w : World) (x : Nat) : (w.alloc (.cells #[.int .u64 (x : Int)] 55)).ownsRow w.heap.size 55 1 (.slice (some ⟨w.heap.size, 0, none⟩) [x].length 1) [x].length ([x].map wd) := by
  simpa [wd] using World.ownsRow_lit (e := 55) (size := 1) (base := w.heap.size) w #[.int .u64 (x : Int)] 1 (Nat.le_refl _) (by decide) (by simp)
theorem tab0 (w : World) : (Instr.index 64 (.agg #[.int .u64 2, .int .u64 3, .int .u64 5]) (.int .i64 0)).run Tryd.prog w = .ok (.int .u64 2) w := by kernel_rfl
theorem tab1 (w : World) : (Instr.index 64 (.agg #[.int .u64 2, .int .u64 3, .int .u64 5]) (.int .i64 1)).run Tryd.prog w = .ok (.int .u64 3) w := by kernel_rfl
theorem tab2 (w : World) : (Instr.index 64 (.agg #[.int .u64 2, .int .u64 3, .int .u64 5]) (.int .i64 2)).run Tryd.prog w = .ok (.int .u64 5) w := by kernel_rfl
theorem pow_any (base g cap : Nat) (xs : List Nat) (f e : Int) (w : World) (hown : w.ownsRow base 55 1 (.slice (some ⟨g, 0, none⟩) xs.length cap) xs.length (xs.map wd))
    (hn : Nats.Norm xs) (hf0 : 1 ≤ f) (hf : f < 18446744073709551616) (he0 : 0 ≤ e) (he : e ≤ 1073741824) (hlen : xs.length ≤ 1073741824) :
    Calls Tryd.prog 17 #[.slice (some ⟨g, 0, none⟩) xs.length cap, .int .u64 f, .int .i64 e] w (PowPost w.heap.size (Nats.val xs * f.toNat ^ e.toNat) (xs.length + e.toNat + 1) w) := by
  obtain ⟨f, rfl⟩ := Int.eq_ofNat_of_zero_le (show 0 ≤ f by omega)
  obtain ⟨e, rfl⟩ := Int.eq_ofNat_of_zero_le he0
  exact pow_nat base g cap xs f e w hown hn (by omega) (by omega) (by omega) hlen

/-- the table of primes reads as it is laid -/
structure Primes (w : World) : Prop where
  c0 : w.cell? ⟨0, 0, none⟩ = some (.int .u64 2)
  c1 : w.cell? ⟨0, 1, none⟩ = some (.int .u64 3)
  c2 : w.cell? ⟨0, 2, none⟩ = some (.int .u64 5)
theorem Primes.lt {w : World} (h : Primes w) : 0 < w.heap.size := by
  rcases Nat.lt_or_ge 0 w.heap.size with h' | h'
  · exact h'
  · have := h.c0
    unfold World.cell? at this
    rw [show w.heap[(⟨0, 0, none⟩ : Addr).block]? = none from Array.getElem?_eq_none h'] at this
    simp at this
theorem Primes.keep {w w' : World} (h : Primes w) (hb : Below w.heap.size w w') : Primes w' :=
  ⟨(hb.cell (p := ⟨0, 0, none⟩) h.lt).trans h.c0, (hb.cell (p := ⟨0, 1, none⟩) h.lt).trans h.c1, (hb.cell (p := ⟨0, 2, none⟩) h.lt).trans h.c2⟩

def oK (a b c : Int) : Nat → Nat
  | 0 => 1
  | 1 => pw 2 a
  | 2 => pw 2 a * pw 3 b
  | _ => over a b c
def SideRel (a b c : Int) (w : World) (vo vu vi : Value) (wr : World) : Prop :=
  ∃ (k g cap g' cap' : Nat) (xs ys : List Nat), k ≤ 3 ∧ vi = .int .i64 (k : Int) ∧ vo = .slice (some ⟨g, 0, none⟩) xs.length cap ∧ vu = .slice (some ⟨g', 0, none⟩) ys.length cap' ∧
    wr.ownsRow w.heap.size 55 1 (.slice (some ⟨g, 0, none⟩) xs.length cap) xs.length (xs.map wd) ∧ wr.ownsRow w.heap.size 55 1 (.slice (some ⟨g', 0, none⟩) ys.length cap') ys.length (ys.map wd) ∧
    Nats.Norm xs ∧ Nats.Norm ys ∧ Nats.val xs = oK a b c k ∧ Nats.val ys = oK (-a) (-b) (-c) k ∧ xs.length ≤ 1 + 20000 * k ∧ ys.length ≤ 1 + 20000 * k ∧
    Box wr w.heap.size #[.int .i64 a, .int .i64 b, .int .i64 c] 52 ∧ Below w.heap.size w wr
theorem pw_neg {p : Nat} {e : Int} (h : e ≤ 0) : pw p e = 1 := by unfold pw; rw [show e.toNat = 0 by omega, Nat.pow_zero]
theorem oK_step (a b c : Int) (k : Nat) (hk : k < 3) : oK a b c (k + 1) = oK a b c k * pw (match k with | 0 => 2 | 1 => 3 | _ => 5) (match k with | 0 => a | 1 => b | _ => c) := by
  match k, hk with
  | 0, _ => simp [oK]
  | 1, _ => simp [oK]
  | 2, _ => simp [oK, over]

theorem side_over {a b c e : Int} {w wr w1 : World} {k g' cap' g1 cap1 p : Nat} {xs ys zs : List Nat}
    (hU : wr.ownsRow w.heap.size 55 1 (.slice (some ⟨g', 0, none⟩) ys.length cap') ys.length (ys.map wd)) (hny : Nats.Norm ys) (hvx : Nats.val xs = oK a b c k) (hvy : Nats.val ys = oK (-a) (-b) (-c) k)
    (hlx : xs.length ≤ 1 + 20000 * k) (hly : ys.length ≤ 1 + 20000 * k) (hbx : Box wr w.heap.size #[.int .i64 a, .int .i64 b, .int .i64 c] 52) (hB : Below w.heap.size w wr) (he : 0 < e ∧ e ≤ 10000) (hk : k < 3)
    (hs : oK a b c (k + 1) = oK a b c k * pw p e) (hs' : oK (-a) (-b) (-c) (k + 1) = oK (-a) (-b) (-c) k * pw p (-e))
    (o1 : w1.ownsRow wr.heap.size 55 1 (.slice (some ⟨g1, 0, none⟩) zs.length cap1) zs.length (zs.map wd)) (n1 : Nats.Norm zs) (v1 : Nats.val zs = Nats.val xs * p ^ e.toNat) (l1 : zs.length ≤ xs.length + e.toNat + 1) (b1 : Below wr.heap.size wr w1) :
    SideRel a b c w (.slice (some ⟨g1, 0, none⟩) zs.length cap1) (.slice (some ⟨g', 0, none⟩) ys.length cap') (.int .i64 ((k + 1 : Nat) : Int)) w1 :=
  ⟨k + 1, g1, cap1, g', cap', zs, ys, by omega, rfl, rfl, rfl, own_base_mono o1 hB.size, own_below hU b1 (own_base hU).2, n1, hny, by rw [v1, hs, hvx]; rfl,
    by rw [hvy, hs', pw_neg (by omega), Nat.mul_one], by omega, by omega, hbx.keep b1, hB.trans (b1.mono hB.size)⟩
theorem side_under {a b c e : Int} {w wr w1 : World} {k g cap g1 cap1 p : Nat} {xs ys zs : List Nat}
    (hO : wr.ownsRow w.heap.size 55 1 (.slice (some ⟨g, 0, none⟩) xs.length cap) xs.length (xs.map wd)) (hnx : Nats.Norm xs) (hvx : Nats.val xs = oK a b c k) (hvy : Nats.val ys = oK (-a) (-b) (-c) k)
    (hlx : xs.length ≤ 1 + 20000 * k) (hly : ys.length ≤ 1 + 20000 * k) (hbx : Box wr w.heap.size #[.int .i64 a, .int .i64 b, .int .i64 c] 52) (hB : Below w.heap.size w wr) (he : e ≤ 0 ∧ -10000 ≤ e) (hk : k < 3)
    (hs : oK a b c (k + 1) = oK a b c k * pw p e) (hs' : oK (-a) (-b) (-c) (k + 1) = oK (-a) (-b) (-c) k * pw p (-e))
    (o1 : w1.ownsRow wr.heap.size 55 1 (.slice (some ⟨g1, 0, none⟩) zs.length cap1) zs.length (zs.map wd)) (n1 : Nats.Norm zs) (v1 : Nats.val zs = Nats.val ys * p ^ (-e).toNat) (l1 : zs.length ≤ ys.length + (-e).toNat + 1) (b1 : Below wr.heap.size wr w1) :
    SideRel a b c w (.slice (some ⟨g, 0, none⟩) xs.length cap) (.slice (some ⟨g1, 0, none⟩) zs.length cap1) (.int .i64 ((k + 1 : Nat) : Int)) w1 :=
  ⟨k + 1, g, cap, g1, cap1, xs, zs, by omega, rfl, rfl, rfl, own_below hO b1 (own_base hO).2, own_base_mono o1 hB.size, hnx, n1, by rw [hvx, hs, pw_neg (by omega), Nat.mul_one], by rw [v1, hs', hvy]; rfl,
    by omega, by omega, hbx.keep b1, hB.trans (b1.mono hB.size)⟩

set_option maxHeartbeats 1600000 in
theorem sides_any (a b c : Int) (w : World) (ha : -10000 ≤ a) (ha' : a ≤ 10000) (hb : -10000 ≤ b) (hb' : b ≤ 10000) (hc : -10000 ≤ c) (hc' : c ≤ 10000) (hp : Primes w) :
    Calls Tryd.prog 15 #[.agg #[.int .i64 a, .int .i64 b, .int .i64 c]] w (SidesPost a b c w) := by
  have hp0 := hp.lt
  obtain ⟨h0, h1, h2⟩ := hp
  have i0 := tab0
  have i1 := tab1
  have i2 := tab2
  go_enter Tryd.func15, Tryd.ntmps15
  go_wp2_with fail
  clear h0 h1 h2
  go_loopw [4, 5, 11] (SideRel a b c w) (fun _ _ i _ => 3 - (intOf i).toNat)
  case atStart =>
    refine ⟨0, w.heap.size + 1, 1, w.heap.size + 2, 1, [1], [1], by omega, rfl, rfl, rfl, ?_, ?_, Nats.norm_one, Nats.norm_one, Nats.val_one, Nats.val_one, by simp, by simp, ?_, by go_grown⟩
    · have h := own_below (lit_own (w.alloc (.cells #[.int .i64 a, .int .i64 b, .int .i64 c] 52)) 1) ((Below.refl _ _).alloc (Nat.le_refl _) (.cells #[.int .u64 1] 55)) (by simp)
      simpa using own_base_mono h (by simp)
    · have h := lit_own ((w.alloc (.cells #[.int .i64 a, .int .i64 b, .int .i64 c] 52)).alloc (.cells #[.int .u64 1] 55)) 1
      simpa using own_base_mono h (by simp; omega)
    · exact ((Box.new w _ _ rfl).alloc _).alloc _
  case round =>
    obtain ⟨k, g, cap, g', cap', xs, ys, hk, rfl, rfl, rfl, ho, hu, hnx, hny, hvx, hvy, hlx, hly, hbx, hB⟩ := hrel
    obtain ⟨p0, p1, p2, q0, q1, q2⟩ := hbx.three
    have HO := Lib.hid ho; have HU := Lib.hid hu; have HX := Lib.hid hnx; have HY := Lib.hid hny; have HVX := Lib.hid hvx; have HVY := Lib.hid hvy; have HBX := Lib.hid hbx; have HB := Lib.hid hB
    clear ho hu hnx hny hvx hvy hbx hB
    rcases (show k = 0 ∨ k = 1 ∨ k = 2 ∨ k = 3 by omega) with rfl | rfl | rfl | rfl
    · by_cases hs : 0 < a
      · go_wp2_with fail
        refine (pow_any w.heap.size g cap xs 2 a _ HO.out HX.out (by omega) (by omega) (by omega) (by omega) (by omega)).mono ?_
        rintro e w1 ⟨g1, cap1, zs, rfl, o1, n1, v1, l1, b1⟩
        have R := Lib.hid (side_over (k := 0) (e := a) (p := 2) HU.out HY.out HVX.out HVY.out hlx hly HBX.out HB.out (by omega) (by omega) (oK_step a b c 0 (by omega)) (oK_step (-a) (-b) (-c) 0 (by omega)) o1 n1 v1 l1 b1)
        clear o1 n1 v1 l1 b1
        go_wp2_with fail
        go_roundw
        case rel => exact R.out
        case measure => simp [intOf]
      · go_wp2_with fail
        refine (pow_any w.heap.size g' cap' ys 2 (-a) _ HU.out HY.out (by omega) (by omega) (by omega) (by omega) (by omega)).mono ?_
        rintro e w1 ⟨g1, cap1, zs, rfl, o1, n1, v1, l1, b1⟩
        have R := Lib.hid (side_under (k := 0) (e := a) (p := 2) HO.out HX.out HVX.out HVY.out hlx hly HBX.out HB.out (by omega) (by omega) (oK_step a b c 0 (by omega)) (oK_step (-a) (-b) (-c) 0 (by omega)) o1 n1 v1 l1 b1)
        clear o1 n1 v1 l1 b1
        go_wp2_with fail
        go_roundw
        case rel => exact R.out
        case measure => simp [intOf]
    · by_cases hs : 0 < b
      · go_wp2_with fail
        refine (pow_any w.heap.size g cap xs 3 b _ HO.out HX.out (by omega) (by omega) (by omega) (by omega) (by omega)).mono ?_
        rintro e w1 ⟨g1, cap1, zs, rfl, o1, n1, v1, l1, b1⟩
        have R := Lib.hid (side_over (k := 1) (e := b) (p := 3) HU.out HY.out HVX.out HVY.out hlx hly HBX.out HB.out (by omega) (by omega) (oK_step a b c 1 (by omega)) (oK_step (-a) (-b) (-c) 1 (by omega)) o1 n1 v1 l1 b1)
        clear o1 n1 v1 l1 b1
        go_wp2_with fail
        go_roundw
        case rel => exact R.out
        case measure => simp [intOf]
      · go_wp2_with fail
        refine (pow_any w.heap.size g' cap' ys 3 (-b) _ HU.out HY.out (by omega) (by omega) (by omega) (by omega) (by omega)).mono ?_
        rintro e w1 ⟨g1, cap1, zs, rfl, o1, n1, v1, l1, b1⟩
        have R := Lib.hid (side_under (k := 1) (e := b) (p := 3) HO.out HX.out HVX.out HVY.out hlx hly HBX.out HB.out (by omega) (by omega) (oK_step a b c 1 (by omega)) (oK_step (-a) (-b) (-c) 1 (by omega)) o1 n1 v1 l1 b1)
        clear o1 n1 v1 l1 b1
        go_wp2_with fail
        go_roundw
        case rel => exact R.out
        case measure => simp [intOf]
    · by_cases hs : 0 < c
      · go_wp2_with fail
        refine (pow_any w.heap.size g cap xs 5 c _ HO.out HX.out (by omega) (by omega) (by omega) (by omega) (by omega)).mono ?_
        rintro e w1 ⟨g1, cap1, zs, rfl, o1, n1, v1, l1, b1⟩
        have R := Lib.hid (side_over (k := 2) (e := c) (p := 5) HU.out HY.out HVX.out HVY.out hlx hly HBX.out HB.out (by omega) (by omega) (oK_step a b c 2 (by omega)) (oK_step (-a) (-b) (-c) 2 (by omega)) o1 n1 v1 l1 b1)
        clear o1 n1 v1 l1 b1
        go_wp2_with fail
        go_roundw
        case rel => exact R.out
        case measure => simp [intOf]
      · go_wp2_with fail
        refine (pow_any w.heap.size g' cap' ys 5 (-c) _ HU.out HY.out (by omega) (by omega) (by omega) (by omega) (by omega)).mono ?_
        rintro e w1 ⟨g1, cap1, zs, rfl, o1, n1, v1, l1, b1⟩
        have R := Lib.hid (side_under (k := 2) (e := c) (p := 5) HO.out HX.out HVX.out HVY.out hlx hly HBX.out HB.out (by omega) (by omega) (oK_step a b c 2 (by omega)) (oK_step (-a) (-b) (-c) 2 (by omega)) o1 n1 v1 l1 b1)
        clear o1 n1 v1 l1 b1
        go_wp2_with fail
        go_roundw
        case rel => exact R.out
        case measure => simp [intOf]
    · go_wp2_with fail
      go_ret2
      exact ⟨g, cap, g', cap', xs, ys, rfl, HO.out, HU.out, HX.out, HY.out, HVX.out, HVY.out, by omega, by omega, HB.out⟩
end Go.Proofs.YtihpkiopeagogaaDoor
