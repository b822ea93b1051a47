/-
  The walks of CheckSystem and of its reference, for all systems.
-/
import Derived.Test.YtihpkiopeagogaaDoorPit
import Derived.Laws.EntriesVeiled
namespace Go.Proofs.YtihpkiopeagogaaDoor
open Go.RowKit
/-- a bound, as it lies in memory -/
structure Bd where
  f : Int
  t : Int
  m : Int
/-- the bounds read so at a slice's address -/
def BdsAt (w : World) (a : Option Addr) (l : List Bd) : Prop :=
  l = [] ∨ ∃ b o, a = some ⟨b, o, none⟩ ∧ b < w.heap.size ∧ ∀ j (h : j < l.length), w.cell? ⟨b, o + j * 3, none⟩ = some (.int .i64 (l[j]).f) ∧ w.cell? ⟨b, o + j * 3 + 1, none⟩ = some (.int .i64 (l[j]).t) ∧ w.cell? ⟨b, o + j * 3 + 2, none⟩ = some (.int .i64 (l[j]).m)
theorem BdsAt.keep {w w' : World} {a : Option Addr} {l : List Bd} (h : BdsAt w a l) (hb : Below w.heap.size w w') : BdsAt w' a l := by
  rcases h with h | ⟨b, o, h1, h2, h3⟩
  · exact .inl h
  · refine .inr ⟨b, o, h1, Nat.lt_of_lt_of_le h2 hb.size, fun j hj => ?_⟩
    rw [(bcell hb).1 b _ h2, (bcell hb).1 b _ h2, (bcell hb).1 b _ h2]; exact h3 j hj
def bdE (n : Int) (b : Bd) : Int := if inR b.f 0 (n - 1) && inR b.t 0 (n - 1) then (if inB b.m 1000000000 then 0 else 2) else 6
def bdsE (n : Int) : List Bd → Int
  | [] => 0
  | b :: t => if bdE n b ≠ 0 then bdE n b else bdsE n t
def sysE (n : Int) (l : List Bd) : Int := if n < 1 ∨ 60 < n then 2 else if 200 < l.length then 8 else bdsE n l
def SysRel (n : Int) (l : List Bd) (w : World) (v : Value) (wr : World) : Prop :=
  ∃ k : Nat, k ≤ l.length ∧ v = .int .i64 (k : Int) ∧ bdsE n (l.drop k) = bdsE n l ∧ Below w.heap.size w wr
theorem bdsE_bad {n : Int} {l : List Bd} {k : Nat} (hk : k < l.length) {e : Int} (hd : bdsE n (l.drop k) = bdsE n l) (he : bdE n (l[k]) = e) (h0 : e ≠ 0) : bdsE n l = e := by
  rw [← hd, List.drop_eq_getElem_cons hk]
  show (if bdE n (l[k]) ≠ 0 then bdE n (l[k]) else _) = e
  rw [he, if_pos h0]
theorem bdsE_ok {n : Int} {l : List Bd} {k : Nat} (hk : k < l.length) (hd : bdsE n (l.drop k) = bdsE n l) (he : bdE n (l[k]) = 0) : bdsE n (l.drop (k + 1)) = bdsE n l := by
  rw [← hd, List.drop_eq_getElem_cons hk]
  show _ = (if bdE n (l[k]) ≠ 0 then bdE n (l[k]) else _)
  rw [he, if_neg (by omega)]
set_option maxRecDepth 100000 in
set_option maxHeartbeats 1600000 in
theorem chkSys_any (n : Int) (a : Option Addr) (cap : Nat) (l : List Bd) (w : World) (h : BdsAt w a l) (hl : l.length ≤ 1099511627776) (n0 : -9223372036854775808 ≤ n) (n1 : n ≤ 9223372036854775807) :
    Calls Tryd.prog 12 #[.int .i64 n, .slice a l.length cap] w fun e w' => e = .returned (.int .i64 (sysE n l)) ∧ Below w.heap.size w w' := by
  have H := Lib.hid h; clear h
  rcases Int.lt_or_le n 1 with h1 | h1
  · have F := Lib.hid (show sysE n l = 2 by unfold sysE; rw [if_pos (.inl h1)])
    go_enter Tryd.func12, Tryd.ntmps12
    go_wp2_with fail
    go_ret
    exact ⟨ret_int (by rw [F.out]), by go_grown⟩
  rcases Int.lt_or_le 60 n with h2 | h2
  · have F := Lib.hid (show sysE n l = 2 by unfold sysE; rw [if_pos (.inr h2)])
    go_enter Tryd.func12, Tryd.ntmps12
    go_wp2_with fail
    go_ret
    exact ⟨ret_int (by rw [F.out]), by go_grown⟩
  by_cases h3 : 200 < l.length
  · have F := Lib.hid (show sysE n l = 8 by unfold sysE; rw [if_neg (by omega), if_pos h3])
    go_enter Tryd.func12, Tryd.ntmps12
    go_wp2_with fail
    go_ret
    exact ⟨ret_int (by rw [F.out]), by go_grown⟩
  have F := Lib.hid (show sysE n l = bdsE n l by unfold sysE; rw [if_neg (by omega), if_neg h3])
  go_enter Tryd.func12, Tryd.ntmps12
  go_wp2_with fail
  go_loopw [18] (SysRel n l w) (fun i _ => l.length - (intOf i).toNat)
  case atStart => exact ⟨0, by omega, rfl, by rw [List.drop_zero], Below.refl _ _⟩
  case round =>
    obtain ⟨k, hk, rfl, hd, hB⟩ := hrel
    have HD := Lib.hid hd; clear hd
    have zr := hB.size
    by_cases hkl : k < l.length
    · rcases H.out.keep hB with he | ⟨b, o, rfl, hb, hc⟩
      · rw [he] at hkl; simp at hkl
      obtain ⟨c0, c1, c2⟩ := hc k hkl
      have HC := Lib.hid hc; clear hc
      generalize hbd : l[k] = bd at *
      have HBD := Lib.hid hbd; clear hbd
      cases hm : inB bd.m 1000000000
      all_goals go_wp2_with (go_at_call 22; refine (within_any _ _ _ (by omega) (by omega)).mono ?_; rintro e w' ⟨rfl, rfl⟩)
      all_goals first
        | (go_ret
           exact ⟨ret_int (by rw [F.out]; exact (bdsE_bad hkl HD.out (e := 6) (by rw [HBD.out]; unfold bdE; rw [if_neg (by unfold inR; simp; omega)]) (by omega)).symm), by go_grown⟩)
        | (go_ret
           exact ⟨ret_int (by rw [F.out]; exact (bdsE_bad hkl HD.out (e := 2) (by rw [HBD.out]; unfold bdE; rw [if_pos (by unfold inR; simp; omega), if_neg (by rw [hm]; simp)]) (by omega)).symm), by go_grown⟩)
        | (refine ⟨⟨k + 1, by omega, by simp, bdsE_ok hkl HD.out (by rw [HBD.out]; unfold bdE; rw [if_pos (by unfold inR; simp; omega), if_pos hm]), ?_⟩, by simp [intOf]; omega⟩
           go_grown)
    · obtain rfl : k = l.length := by omega
      go_wp2_with fail
      go_ret
      exact ⟨ret_int (by rw [F.out, ← HD.out, List.drop_length]; rfl), hB⟩
theorem inR_inB' (n m : Int) : inR n (-m) m = inB n m := rfl
set_option maxRecDepth 100000 in
set_option maxHeartbeats 1600000 in
theorem rchkSys_any (n : Int) (a : Option Addr) (cap : Nat) (l : List Bd) (w : World) (h : BdsAt w a l) (hl : l.length ≤ 1099511627776) (n0 : -9223372036854775808 ≤ n) (n1 : n ≤ 9223372036854775807) :
    Calls Tryd.prog 5 #[.int .i64 n, .slice a l.length cap] w fun e w' => e = .returned (.int .i64 (sysE n l)) ∧ Below w.heap.size w w' := by
  have H := Lib.hid h; clear h
  cases h1 : inR n 1 60
  · have F := Lib.hid (show sysE n l = 2 by unfold sysE; rw [if_pos (by have := of_decide_eq_false h1; omega)])
    go_enter Tryd.func5, Tryd.ntmps5
    go_wp2_with (go_at_call 6; refine (Within_any _ _ _ _).mono ?_; rintro e w ⟨rfl, rfl⟩)
    go_ret
    exact ⟨ret_int (by rw [F.out]), by go_grown⟩
  have h1' := of_decide_eq_true h1
  by_cases h3 : 200 < l.length
  · have F := Lib.hid (show sysE n l = 8 by unfold sysE; rw [if_neg (by omega), if_pos h3])
    go_enter Tryd.func5, Tryd.ntmps5
    go_wp2_with (go_at_call 6; refine (Within_any _ _ _ _).mono ?_; rintro e w ⟨rfl, rfl⟩)
    go_ret
    exact ⟨ret_int (by rw [F.out]), by go_grown⟩
  have F := Lib.hid (show sysE n l = bdsE n l by unfold sysE; rw [if_neg (by omega), if_neg h3])
  go_enter Tryd.func5, Tryd.ntmps5
  go_wp2_with (go_at_call 6; refine (Within_any _ _ _ _).mono ?_; rintro e w ⟨rfl, rfl⟩)
  clear h1
  go_loopw [5] (SysRel n l w) (fun i _ => l.length - (intOf i).toNat)
  case atStart => exact ⟨0, by omega, rfl, by rw [List.drop_zero], Below.refl _ _⟩
  case round =>
    obtain ⟨k, hk, rfl, hd, hB⟩ := hrel
    have HD := Lib.hid hd; clear hd
    have zr := hB.size
    by_cases hkl : k < l.length
    · rcases H.out.keep hB with he | ⟨b, o, rfl, hb, hc⟩
      · rw [he] at hkl; simp at hkl
      obtain ⟨c0, c1, c2⟩ := hc k hkl
      have HC := Lib.hid hc; clear hc
      generalize hbd : l[k] = bd at *
      have HBD := Lib.hid hbd; clear hbd
      have hM := inR_inB' bd.m 1000000000
      cases hm : inB bd.m 1000000000 <;> cases hf : inR bd.f 0 (n - 1) <;> cases ht : inR bd.t 0 (n - 1)
      all_goals rw [hm] at hM
      all_goals go_wp2_with (go_at_call 6; refine (Within_any _ _ _ _).mono ?_; rintro e wr ⟨rfl, rfl⟩)
      all_goals first
        | (go_ret
           exact ⟨ret_int (by rw [F.out]; exact (bdsE_bad hkl HD.out (e := 6) (by rw [HBD.out]; unfold bdE; rw [hf, ht]; rfl) (by omega)).symm), by go_grown⟩)
        | (go_ret
           exact ⟨ret_int (by rw [F.out]; exact (bdsE_bad hkl HD.out (e := 2) (by rw [HBD.out]; unfold bdE; rw [hf, ht, hm]; rfl) (by omega)).symm), by go_grown⟩)
        | (refine ⟨⟨k + 1, by omega, by simp, bdsE_ok hkl HD.out (by rw [HBD.out]; unfold bdE; rw [hf, ht, hm]; rfl), ?_⟩, by simp [intOf]; omega⟩
           go_grown)
    · obtain rfl : k = l.length := by omega
      go_wp2_with fail
      go_ret
      exact ⟨ret_int (by rw [F.out, ← HD.out, List.drop_length]; rfl), hB⟩
end Go.Proofs.YtihpkiopeagogaaDoor
