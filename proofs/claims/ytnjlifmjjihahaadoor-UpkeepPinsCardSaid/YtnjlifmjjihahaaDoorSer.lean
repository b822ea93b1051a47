/-
  The error of an ascending list of known numbers: upkeep.setError, for whatever function tells what is known; the numbers of tests. No condition but the ranges.
-/
import Derived.Test.YtnjlifmjjihahaaDoorExe
import Derived.Deep.RegionHeld3
namespace Go.Proofs.YtnjlifmjjihahaaDoor
open Go.RowKit
attribute [local go_sem ↓] Go.wp_at_zero Go.wp_at_succ
/-- the error of the order of a list -/
def asE : List Int → Int
  | [] => 0
  | [_] => 0
  | x :: y :: r => if y ≤ x then 9 else asE (y :: r)
theorem asE_drop {l : List Int} {k : Nat} (h : k + 1 < l.length) : asE (l.drop k) = if l[k + 1] ≤ l[k] then 9 else asE (l.drop (k + 1)) := by
  rw [List.drop_eq_getElem_cons (by omega), List.drop_eq_getElem_cons h]; rfl
/-- the error of a set of numbers, of which K tells whether they are known -/
def seE (K : Int → Bool) (l : List Int) : Int := if l.all K then asE l else 6
theorem SetAt.keep {w w' : World} {a : Option Addr} {l : List Int} (h : SetAt w a l) (hb : Below w.heap.size w w') : SetAt w' a l := by
  rcases h with h | ⟨b, o, e, hl, hc⟩
  · exact .inl h
  · exact .inr ⟨b, o, e, Nat.lt_of_lt_of_le hl hb.size, fun j hj => (hb.cell (p := ⟨b, o + j, none⟩) hl).trans (hc j hj)⟩
theorem SetAt.at {w : World} {a : Option Addr} {l : List Int} (h : SetAt w a l) {k : Nat} (hk : k < l.length) : ∃ b o, a = some ⟨b, o, none⟩ ∧ b < w.heap.size ∧ w.cell? ⟨b, o + k, none⟩ = some (.int .i64 l[k]) := by
  rcases h with h | ⟨b, o, e, hl, hc⟩
  · subst h; simp at hk
  · exact ⟨b, o, e, hl, hc k hk⟩
theorem SetAt.at2 {w : World} {a : Option Addr} {l : List Int} (h : SetAt w a l) {k : Nat} (hk : k + 1 < l.length) : ∃ b o, a = some ⟨b, o, none⟩ ∧ b < w.heap.size ∧ w.cell? ⟨b, o + k, none⟩ = some (.int .i64 l[k]) ∧ w.cell? ⟨b, o + (k + 1), none⟩ = some (.int .i64 l[k + 1]) := by
  rcases h with h | ⟨b, o, e, hl, hc⟩
  · subst h; simp at hk
  · exact ⟨b, o, e, hl, hc k (by omega), hc (k + 1) hk⟩
set_option maxRecDepth 100000 in
set_option maxHeartbeats 1600000 in
theorem setError_any (K : Int → Bool) (f : Nat) (caps : Array Value) (l : List Int) (a : Option Addr) (cap : Nat) (w : World) (hl : l.length ≤ 1000) (hs : SetAt w a l)
    (hK : ∀ n u, Below w.heap.size w u → Calls Tryd.prog f (#[.int .i64 n] ++ caps) u fun e u' => e = .returned (.bool (K n)) ∧ Below u.heap.size u u')
    (hE : ∀ args u, (callFunc f args).run Tryd.prog u = .ok (.enter f args) u) :
    Calls Tryd.prog 101 #[.slice a l.length cap, .func (.func f) #[] caps] w fun e w' => e = .returned (.int .i64 (seE K l)) ∧ Below w.heap.size w w' := by
  have HS := Lib.hid hs; have HK := Lib.hid hK; clear hs hK
  go_enter Tryd.func101, Tryd.ntmps101
  go_wp2
  go_loopw [10] (fun i wr => ∃ k : Nat, k ≤ l.length ∧ i = .int .i64 k ∧ Hid ((l.take k).all K = true) ∧ Below w.heap.size w wr) (fun i _ => l.length - (intOf i).toNat)
  case atStart => exact ⟨0, by omega, rfl, Lib.hid (by simp), Below.refl _ _⟩
  case round =>
    obtain ⟨k, hk, rfl, HA, RB⟩ := hrel
    by_cases hlt : k < l.length
    · obtain ⟨b, o, rfl, hb, hck⟩ := (HS.out.keep RB).at hlt
      have HT := Lib.hid (show ∃ x, l[k] = x from ⟨_, rfl⟩)
      obtain ⟨x, hx⟩ := HT.out
      rw [hx] at hck
      have CK := Lib.hid (HK.out x wr RB)
      have HTK := Lib.hid (show l.take (k + 1) = l.take k ++ [x] by rw [List.take_succ_eq_append_getElem hlt, hx])
      have HX := Lib.hid hx; clear hx HT
      cases hv : K x
      · rw [hv] at CK
        have HV := Lib.hid hv; clear hv
        go_wp2_with fail
        refine CK.out.mono ?_
        rintro e w2 ⟨rfl, h2⟩
        have B2 := below_via RB h2
        clear h2
        go_wp2_with fail
        go_ret
        exact ⟨ret_int (by
          have hn : l.all K = false := by
            rw [List.all_eq_false]; exact ⟨l[k], List.getElem_mem hlt, by rw [HX.out, HV.out]; simp⟩
          unfold seE; rw [hn]; rfl), B2⟩
      · rw [hv] at CK
        have HV := Lib.hid hv; clear hv
        go_wp2_with fail
        refine CK.out.mono ?_
        rintro e w2 ⟨rfl, h2⟩
        have B2 := below_via RB h2
        clear h2
        go_wp2_with fail
        go_roundw
        case rel => exact ⟨k + 1, by omega, by go_num, Lib.hid (by rw [HTK.out, List.all_append, HA.out]; simp [HV.out]), B2⟩
        case measure => simp [intOf]; omega
    · obtain rfl : k = l.length := by omega
      have HE2 := Lib.hid (show seE K l = asE (l.drop 0) by unfold seE; have := HA.out; rw [List.take_length] at this; rw [this]; rfl)
      go_wp2_with fail
      clear HK HA
      go_loopw [7] (fun i wq => ∃ k : Nat, i = .int .i64 ((k : Int) + 1) ∧ (k < l.length ∨ l.length = 0 ∧ k = 0) ∧ Hid (seE K l = asE (l.drop k)) ∧ Below w.heap.size w wq) (fun i _ => l.length - (intOf i).toNat)
      case atStart => exact ⟨0, rfl, by omega, HE2, RB⟩
      case round =>
        obtain ⟨k, rfl, hk, HD, QB⟩ := hrel
        by_cases hlt : k + 1 < l.length
        · obtain ⟨b, o, rfl, hb, hc0, hc1⟩ := (HS.out.keep QB).at2 hlt
          have HN := Lib.hid (asE_drop hlt)
          have HT := Lib.hid (show ∃ x y, l[k] = x ∧ l[k + 1] = y from ⟨_, _, rfl, rfl⟩)
          obtain ⟨x, y, hx, hy⟩ := HT.out
          rw [hx] at hc0; rw [hy] at hc1; rw [hx, hy] at HN
          clear hx hy HT
          have hlt' : (k : Int) + 1 < l.length := by omega
          have e0 : ((k : Int) + 1).toNat = k + 1 := by omega
          have W1 : IntKind.i64.wrap ((k : Int) + 1 - 1) = (k : Int) := by rw [show (k : Int) + 1 - 1 = k by omega]; exact IntWalk.i64_in _ (by omega)
          have h0k : (0 : Int) ≤ (k : Int) + 1 := by omega
          by_cases hyx : y ≤ x
          · have HY := Lib.hid (show asE (l.drop k) = 9 by rw [HN.out, if_pos hyx])
            go_wp2_with fail
            go_quiet (fail)
            go_wp2_with fail
            go_ret
            exact ⟨ret_int (by rw [HD.out, HY.out]), by (repeat' (first | (with_reducible exact Below.refl _ _) | (with_reducible assumption) | (with_reducible refine Below.drew ?_) | (with_reducible refine below_drewN ?_ _) | (with_reducible refine Below.setCell ?_ ?_ _) | (with_reducible refine Below.alloc ?_ ?_ _) | go_size | omega))⟩
          · have HY := Lib.hid (show asE (l.drop k) = asE (l.drop (k + 1)) by rw [HN.out, if_neg hyx])
            go_wp2_with fail
            go_quiet (fail)
            go_wp2_with fail
            go_roundw
            case rel => exact ⟨k + 1, by go_num, by omega, Lib.hid (by rw [HD.out, HY.out]), by (repeat' (first | (with_reducible exact Below.refl _ _) | (with_reducible assumption) | (with_reducible refine Below.drew ?_) | (with_reducible refine below_drewN ?_ _) | (with_reducible refine Below.setCell ?_ ?_ _) | (with_reducible refine Below.alloc ?_ ?_ _) | go_size | omega))⟩
            case measure => simp [intOf]; omega
        · have hge : ¬ ((k : Int) + 1 < l.length) := by omega
          have HZ : Hid (asE (l.drop k) = 0) := Lib.hid (by
            rcases hk with hk | ⟨h0, rfl⟩
            · rw [List.drop_eq_getElem_cons hk, List.drop_eq_nil_of_le (by omega)]; rfl
            · rw [List.length_eq_zero_iff.1 h0]; rfl)
          go_wp2_with fail
          go_ret
          exact ⟨ret_int (by rw [HD.out, HZ.out]), QB⟩
end Go.Proofs.YtnjlifmjjihahaaDoor
