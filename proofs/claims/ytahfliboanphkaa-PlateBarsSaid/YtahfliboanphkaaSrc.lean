/-
  sort.Search with whatever closure that only draws and makes memory of its own: the search by halves.
-/
import Derived.Test.YtahfliboanphkaaHlf
import Derived.Test.YtahfliboanphkaaDi1
namespace Go.Proofs.Ytahfliboanphkaa
open Go.RowKit
/-- the least number from lo to hi at which P holds, by halves -/
def bs (P : Int → Bool) (lo hi : Int) : Int :=
  if lo < hi then (if P ((lo + hi) / 2) then bs P lo ((lo + hi) / 2) else bs P ((lo + hi) / 2 + 1) hi) else lo
termination_by (hi - lo).toNat
decreasing_by all_goals omega
theorem bs_bd (P : Int → Bool) (lo hi : Int) (h : lo ≤ hi) : lo ≤ bs P lo hi ∧ bs P lo hi ≤ hi := by
  rw [bs]
  split
  · split
    · have := bs_bd P lo ((lo + hi) / 2) (by omega); omega
    · have := bs_bd P ((lo + hi) / 2 + 1) hi (by omega); omega
  · omega
termination_by (hi - lo).toNat
decreasing_by all_goals omega
def SrcRel (P : Int → Bool) (n : Int) (w : World) (a b : Value) (wr : World) : Prop :=
  ∃ l h : Int, 0 ≤ l ∧ h ≤ n ∧ l ≤ h ∧ a = .int .i64 l ∧ b = .int .i64 h ∧ bs P l h = bs P 0 n ∧ Below w.heap.size w wr
set_option maxRecDepth 100000 in
set_option maxHeartbeats 800000 in
theorem search_any (K : Nat) (cap : Array Value) (P : Int → Bool) (n : Int) (w : World) (h0 : 0 ≤ n) (h1 : n ≤ 1152921504606846976)
    (hK : ∀ (args : Array Value) (w : World), (callFunc K args).run Try.prog w = .ok (.enter K args) w)
    (H : Hid (∀ (x : Int) (wr : World), 0 ≤ x → x < n → Below w.heap.size w wr → Calls Try.prog K (#[.int .i64 x] ++ cap) wr fun e w' => e = .returned (.bool (P x)) ∧ Below w.heap.size w w')) :
    Calls Try.prog 98 #[.int .i64 n, .func (.func K) #[] cap] w fun e w' => e = .returned (.int .i64 (bs P 0 n)) ∧ Below w.heap.size w w' := by
  go_enter Try.func98, Try.ntmps98
  go_wp2_with fail
  go_loopw [5, 6] (SrcRel P n w) (fun a b _ => (intOf b - intOf a).toNat)
  case atStart => exact ⟨0, n, by omega, by omega, h0, rfl, rfl, rfl, Below.refl _ _⟩
  case round =>
    obtain ⟨l, h, hl, hh, hle, rfl, rfl, hf, hb⟩ := hrel
    have HF := Lib.hid hf; clear hf
    by_cases hlt : l < h
    · go_wp2_with fail
      refine (H.out ((l + h) / 2) _ (by omega) (by omega) hb).mono ?_
      rintro e w1 ⟨rfl, hb1⟩
      have B1 : Below w.heap.size w w1 := hb1
      cases hP : P ((l + h) / 2)
      · have HP := Lib.hid hP
        go_wp2_with fail
        go_roundw
        case rel =>
          refine ⟨(l + h) / 2 + 1, h, by omega, hh, by omega, rfl, rfl, ?_, B1⟩
          rw [← HF.out]; conv => rhs; rw [bs]
          rw [if_pos hlt, HP.out]; rfl
        case measure => simp [intOf]; omega
      · have HP := Lib.hid hP
        go_wp2_with fail
        go_roundw
        case rel =>
          refine ⟨l, (l + h) / 2, hl, by omega, by omega, rfl, rfl, ?_, B1⟩
          rw [← HF.out]; conv => rhs; rw [bs]
          rw [if_pos hlt, HP.out]; rfl
        case measure => simp [intOf]; omega
    · go_wp2_with fail
      go_ret
      refine ⟨ret_int ?_, hb⟩
      rw [← HF.out, bs, if_neg (by omega)]
theorem enters99 (args : Array Value) (w : World) : (callFunc 99 args).run Try.prog w = .ok (.enter 99 args) w :=
  run_enter Try.func99 (by kernel_rfl) (by kernel_rfl) args w
set_option maxRecDepth 100000 in
set_option maxHeartbeats 1600000 in
theorem searchInts2 (b o cap : Nat) (p q t : Int) (w : World) (hb : b < w.heap.size) (hp : w.cell? ⟨b, o, none⟩ = some (.int .i64 p)) (hq : w.cell? ⟨b, o + 1, none⟩ = some (.int .i64 q)) :
    Calls Try.prog 82 #[.slice (some ⟨b, o, none⟩) 2 cap, .int .i64 t] w fun e w' => e = .returned (.int .i64 (at2 p q t)) ∧ Below w.heap.size w w' := by
  have HB : bs (fun k => decide (t ≤ (if k = 0 then p else q))) 0 2 = at2 p q t := by
    rw [bs, if_pos (by omega)]
    rw [show (0 + 2 : Int) / 2 = 1 from rfl]
    by_cases h1 : t ≤ q
    · rw [if_pos (by simp [h1]), bs, if_pos (by omega), show (0 + 1 : Int) / 2 = 0 from rfl]
      by_cases h2 : t ≤ p
      · rw [if_pos (by simp [h2]), bs, if_neg (by omega)]; unfold at2; rw [if_pos h1, if_pos h2]
      · rw [if_neg (by simp [h2]), bs, if_neg (by omega)]; unfold at2; rw [if_pos h1, if_neg h2]; rfl
    · rw [if_neg (by simp [h1]), bs, if_neg (by omega)]; unfold at2; rw [if_neg h1]; rfl
  go_enter Try.func82, Try.ntmps82
  go_wp2_with fail
  have G := Lib.hid ((Box.new w #[.slice (some ⟨b, o, none⟩) 2 cap] 47 rfl).alloc (.cells #[.int .i64 t] 3))
  have T := Lib.hid (Box.new (w.alloc (.cells #[.slice (some ⟨b, o, none⟩) 2 cap] 47)) #[.int .i64 t] 3 (n := w.heap.size + 1) (by simp))
  have BW : Below w.heap.size w ((w.alloc (.cells #[.slice (some ⟨b, o, none⟩) 2 cap] 47)).alloc (.cells #[.int .i64 t] 3)) := by go_grown
  have hp' := Lib.hid (((bcell BW).1 b o hb).trans hp); have hq' := Lib.hid (((bcell BW).1 b (o + 1) hb).trans hq)
  clear hp hq
  generalize (w.alloc (.cells #[.slice (some ⟨b, o, none⟩) 2 cap] 47)).alloc (.cells #[.int .i64 t] 3) = u at *
  have zu := BW.size
  refine (search_any 99 _ (fun k => decide (t ≤ (if k = 0 then p else q))) 2 _ (by omega) (by omega) enters99 ?_).mono ?_
  · refine Lib.hid fun x wr x0 x2 hbw => ?_
    have c1 := (G.out.keep hbw).cell 0; have c2 := (T.out.keep hbw).cell 0
    have c3 := ((bcell hbw).1 b o (by omega)).trans hp'.out; have c4 := ((bcell hbw).1 b (o + 1) (by omega)).trans hq'.out
    rcases (show x = 0 ∨ x = 1 by omega) with rfl | rfl
    · exact (searchC_any w.heap.size (w.heap.size + 1) b o 0 2 cap p t wr c1 (by omega) (by omega) c3 c2).mono fun e w' ⟨he, hd⟩ => ⟨he, hbw.trans ((hd.below _))⟩
    · exact (searchC_any w.heap.size (w.heap.size + 1) b o 1 2 cap q t wr c1 (by omega) (by omega) c4 c2).mono fun e w' ⟨he, hd⟩ => ⟨he, hbw.trans ((hd.below _))⟩
  · rw [HB]
    rintro e w1 ⟨rfl, h1⟩
    have B1 : Below w.heap.size w w1 := below_via BW h1
    clear h1
    go_wp2_with fail
    go_ret
    exact ⟨rfl, B1⟩
end Go.Proofs.Ytahfliboanphkaa
