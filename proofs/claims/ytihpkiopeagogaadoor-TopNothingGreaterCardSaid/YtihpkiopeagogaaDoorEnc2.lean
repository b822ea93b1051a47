/-
  The walk of Enclose.
-/
import Derived.Test.YtihpkiopeagogaaDoorEnc
namespace Go.Proofs.YtihpkiopeagogaaDoor
open Go.RowKit

def leE (u z : Nat) (d n : Int) : Bool := decide (cmpE u z d n ≤ 0)
set_option maxHeartbeats 800000 in
theorem fits_any (bC base bU bP bG : Nat) (ys zs : List Nat) (g cap g' cap' : Nat) (a b c d n : Int) (w : World) (hk : Kept w base bU bP bG ys zs g cap g' cap' a b c d) (hny : Nats.Norm ys) (hnz : Nats.Norm zs)
    (hC : Box w bC #[.func (.func 18) #[] #[.pointer (some ⟨bU, 0, none⟩), .pointer (some ⟨bP, 0, none⟩), .pointer (some ⟨bG, 0, none⟩)]] 57)
    (hly : ys.length ≤ 1073741824) (hlz : zs.length ≤ 1099511627776) (hn0 : 1 ≤ n) (hn : n ≤ 1000000000000001) (hd0 : 0 ≤ d) (hd : d ≤ 1073741824) :
    Calls Tryd.prog 21 #[.int .i64 n, .pointer (some ⟨bC, 0, none⟩)] w fun e w' =>
      e = .returned (.bool (leE (Nats.val ys) (Nats.val zs) d n)) ∧ Below w.heap.size w w' := by
  obtain ⟨u0, _⟩ := hC.one
  have HK := Lib.hid hk; have HY := Lib.hid hny; have HZ := Lib.hid hnz
  clear hk hny hnz hC
  go_enter Tryd.func21, Tryd.ntmps21
  go_wp2_with fail
  refine (against_any base bU bP bG ys zs g cap g' cap' a b c d n _ HK.out HY.out HZ.out hly hlz hn0 (by omega) (by omega) hd0 hd).mono ?_
  rintro e w1 ⟨rfl, b1⟩
  go_wp2_with fail
  go_ret
  exact ⟨ret_bool rfl, b1⟩

theorem enters18 (args : Array Value) (w : World) : (callFunc 18 args).run Tryd.prog w = .ok (.enter 18 args) w :=
  run_enter Tryd.func18 (by kernel_rfl) (by kernel_rfl) args w

/-- the enclosure, said plainly: u n^d against z -/
def encLo (u z : Nat) (d : Int) : Int := half (leE u z d) 0 1000000000000000
def encUp (u z : Nat) (d : Int) : Bool := encLo u z d == 0 || decide (cmpE u z d (encLo u z d) < 0)
def encHi (u z : Nat) (d : Int) : Int := if encUp u z d then encLo u z d + 1 else encLo u z d
theorem half_bd (P : Int → Bool) (low high : Int) (h : low ≤ high) : low ≤ half P low high ∧ half P low high ≤ high := by
  rw [half]
  split
  · rename_i hlt
    split
    · have := half_bd P (low + (high - low + 1) / 2) high (by omega); omega
    · have := half_bd P low (low + (high - low + 1) / 2 - 1) (by omega); omega
  · omega
termination_by (high - low).toNat
decreasing_by all_goals omega

def encOk (a b c d t : Int) : Bool := decide (encHi (under (nX a b c d a) (nX a b c d b) (nX a b c d c)) (over (nX a b c d a) (nX a b c d b) (nX a b c d c) * t.toNat ^ (nX a b c d d).toNat) (nX a b c d d) ≤ 1000000000000000)
def encE (a b c d t : Int) : Int := if nE a b c d ≠ 0 then nE a b c d else if ¬ (1 ≤ t ∧ t ≤ 1000000000) then 2 else if encOk a b c d t then 0 else 8
def encL (a b c d t : Int) : Int := if encE a b c d t = 0 then encLo (under (nX a b c d a) (nX a b c d b) (nX a b c d c)) (over (nX a b c d a) (nX a b c d b) (nX a b c d c) * t.toNat ^ (nX a b c d d).toNat) (nX a b c d d) else 0
def encH (a b c d t : Int) : Int := if encE a b c d t = 0 then encHi (under (nX a b c d a) (nX a b c d b) (nX a b c d c)) (over (nX a b c d a) (nX a b c d b) (nX a b c d c) * t.toNat ^ (nX a b c d d).toNat) (nX a b c d d) else 0

theorem nE_zero {a b c d : Int} (h : nE a b c d = 0) : (1 ≤ nX a b c d d ∧ nX a b c d d ≤ 12) ∧ (-400 ≤ nX a b c d a ∧ nX a b c d a ≤ 400) ∧ (-400 ≤ nX a b c d b ∧ nX a b c d b ≤ 400) ∧ (-400 ≤ nX a b c d c ∧ nX a b c d c ≤ 400) := by
  unfold nE at h
  split at h
  · rename_i hk
    unfold pE at h
    split at h
    · rename_i hn
      unfold nX pX
      rw [if_pos hk, if_pos hk, if_pos hk, if_pos hk, if_pos hn, if_pos hn, if_pos hn, if_pos hn]
      exact okP_bd hn
    · omega
  · omega

set_option maxHeartbeats 1600000 in
theorem enclose_bad (a b c d t : Int) (w : World) (h : nE a b c d ≠ 0 ∨ ¬ (1 ≤ t ∧ t ≤ 1000000000)) :
    Calls Tryd.prog 9 #[.agg #[.int .i64 a, .int .i64 b, .int .i64 c, .int .i64 d], .int .i64 t] w fun e w' =>
      e = .returned (.tuple #[.agg #[.int .i64 (encL a b c d t), .int .i64 (encH a b c d t)], .int .i64 (encE a b c d t)]) ∧ Below w.heap.size w w' := by
  by_cases h0 : nE a b c d = 0
  · have ht : t < 1 ∨ 1000000000 < t := by omega
    have hne : (nE a b c d != 0) = false := by simp [h0]
    have he : encE a b c d t = 2 := by unfold encE; rw [if_neg (by omega), if_pos (by omega)]
    have HE := Lib.hid he; clear he h h0
    rcases ht with ht | ht
    all_goals
      go_enter Tryd.func9, Tryd.ntmps9
      go_wp2_with fail
      refine (normal_any a b c d _).mono ?_
      rintro e w1 ⟨rfl, h1⟩
      have hB : Below w.heap.size w w1 := below_via (by go_grown) h1
      have hs := h1.size
      simp at hs
      obtain ⟨p0, p1, p2, p3, q0, q1, q2, q3⟩ := (((Box.new w _ _ rfl).alloc _).keep h1).four
      obtain ⟨r0, r1, s0, s1⟩ := ((Box.new (w.alloc _) _ _ (n := w.heap.size + 1) (by simp)).keep h1).two
      clear h1
      go_wp2_with fail
      refine bodyPost_ret (v := .tuple #[.agg #[.int .i64 (encL a b c d t), .int .i64 (encH a b c d t)], .int .i64 (encE a b c d t)])
        (by simp [results, Tryd.results9, go_sem, r0, r1, encL, encH, HE.out]) rfl ⟨rfl, ?_⟩
      go_grown
  · have hne : (nE a b c d != 0) = true := by simp [h0]
    have he : encE a b c d t = nE a b c d := by unfold encE; rw [if_pos h0]
    have HE := Lib.hid he; have H0 := Lib.hid h0; clear he h h0
    go_enter Tryd.func9, Tryd.ntmps9
    go_wp2_with fail
    refine (normal_any a b c d _).mono ?_
    rintro e w1 ⟨rfl, h1⟩
    have hB : Below w.heap.size w w1 := below_via (by go_grown) h1
    have hs := h1.size
    simp at hs
    obtain ⟨p0, p1, p2, p3, q0, q1, q2, q3⟩ := (((Box.new w _ _ rfl).alloc _).keep h1).four
    obtain ⟨r0, r1, s0, s1⟩ := ((Box.new (w.alloc _) _ _ (n := w.heap.size + 1) (by simp)).keep h1).two
    clear h1
    go_wp2_with fail
    refine bodyPost_ret (v := .tuple #[.agg #[.int .i64 (encL a b c d t), .int .i64 (encH a b c d t)], .int .i64 (encE a b c d t)])
      (by simp [results, Tryd.results9, go_sem, r0, r1, encL, encH, HE.out, H0.out]) rfl ⟨rfl, ?_⟩
    go_grown
end Go.Proofs.YtihpkiopeagogaaDoor
