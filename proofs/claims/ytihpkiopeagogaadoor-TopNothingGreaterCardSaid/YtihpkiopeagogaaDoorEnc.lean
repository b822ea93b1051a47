/-
  The walks of Enclose and of its closures.
-/
import Derived.Test.YtihpkiopeagogaaDoorPit3
namespace Go.Proofs.YtihpkiopeagogaaDoor
open Go.RowKit

/-- how the multiple n compares, raised to the power d -/
def cmpE (u z : Nat) (d n : Int) : Int := cmpI (u * n.toNat ^ d.toNat : Nat) (z : Nat)
/-- what the closure 'against' keeps, in a world -/
structure Kept (w : World) (base bU bP bG : Nat) (ys zs : List Nat) (g cap g' cap' : Nat) (a b c d : Int) : Prop where
  boxU : Box w bU #[.slice (some ⟨g, 0, none⟩) ys.length cap] 48
  boxP : Box w bP #[.int .i64 a, .int .i64 b, .int .i64 c, .int .i64 d] 40
  boxG : Box w bG #[.slice (some ⟨g', 0, none⟩) zs.length cap'] 48
  ownU : w.ownsRow base 55 1 (.slice (some ⟨g, 0, none⟩) ys.length cap) ys.length (ys.map wd)
  ownG : w.ownsRow base 55 1 (.slice (some ⟨g', 0, none⟩) zs.length cap') zs.length (zs.map wd)
theorem Kept.keep {w w' : World} {base bU bP bG g cap g' cap' : Nat} {ys zs : List Nat} {a b c d : Int} (h : Kept w base bU bP bG ys zs g cap g' cap' a b c d) (hb : Below w.heap.size w w') : Kept w' base bU bP bG ys zs g cap g' cap' a b c d :=
  ⟨h.boxU.keep hb, h.boxP.keep hb, h.boxG.keep hb, own_below h.ownU hb (own_base h.ownU).2, own_below h.ownG hb (own_base h.ownG).2⟩

set_option maxRecDepth 100000 in
set_option maxHeartbeats 800000 in
theorem against_any (base bU bP bG : Nat) (ys zs : List Nat) (g cap g' cap' : Nat) (a b c d n : Int) (w : World) (hk : Kept w base bU bP bG ys zs g cap g' cap' a b c d) (hny : Nats.Norm ys) (hnz : Nats.Norm zs)
    (hly : ys.length ≤ 1073741824) (hlz : zs.length ≤ 1099511627776) (hn0 : 1 ≤ n) (hn : n < 18446744073709551616) (hn' : n ≤ 9223372036854775807) (hd0 : 0 ≤ d) (hd : d ≤ 1073741824) :
    Calls Tryd.prog 18 #[.int .i64 n, .pointer (some ⟨bU, 0, none⟩), .pointer (some ⟨bP, 0, none⟩), .pointer (some ⟨bG, 0, none⟩)] w fun e w' =>
      e = .returned (.int .i64 (cmpE (Nats.val ys) (Nats.val zs) d n)) ∧ Below w.heap.size w w' := by
  obtain ⟨u0, u1⟩ := hk.boxU.one
  obtain ⟨p0, p1, p2, p3, q0, q1, q2, q3⟩ := hk.boxP.four
  obtain ⟨v0, v1⟩ := hk.boxG.one
  have HK := Lib.hid hk; have HY := Lib.hid hny; have HZ := Lib.hid hnz
  clear hk hny hnz p0 p1 p2 q0 q1 q2 q3 u1 v1
  have hw : IntKind.u64.wrap n = n := IntWalk.u64_in _ (by omega)
  go_enter Tryd.func18, Tryd.ntmps18
  go_wp2_with fail
  go_region_with (first
    | (go_at_call 17; refine (pow_any base g cap ys n d _ (by exact HK.out.ownU) HY.out hn0 hn hd0 hd hly).mono ?_; rintro e w1 ⟨g1, cap1, xs, rfl, o1, n1, x1, l1, b1⟩; have hB1 : Below w.heap.size w w1 := below_via (by go_grown) b1; have HK1 := Lib.hid (HK.out.keep hB1); have v0' := HK1.out.boxG.one.1; have HO1 := Lib.hid o1; have HN1 := Lib.hid n1; have HX1 := Lib.hid x1; clear o1 n1 x1 b1)
    | (go_at_call 19; refine (cmpN_any _ g1 cap1 _ g' cap' xs zs _ (by exact HO1.out) (by exact HK1.out.ownG) HN1.out HZ.out (by omega) hlz).mono ?_; rintro e w2 ⟨rfl, b2⟩; have hB2 : Below w.heap.size w w2 := hB1.trans (b2.below _); clear b2))
  all_goals
    go_wp2
    go_ret
    exact ⟨ret_int (by rw [HX1.out]; rfl), hB2⟩
end Go.Proofs.YtihpkiopeagogaaDoor
