/-
  LooseOn. No condition but the length.
-/
import Derived.Test.YtnjlifmjjihahaaDoorLoo
namespace Go.Proofs.YtnjlifmjjihahaaDoor
open Go Go.RowKit
theorem tqF_mem : ∀ (l : List (Int × Int)) (p : Int), tqF p l = 0 → ∀ x ∈ l, p < x.1 ∧ tqE x.1 x.2 = 0
  | [], _, _, x, hx => by simp at hx
  | y :: l, p, h, x, hx => by
    unfold tqF at h
    by_cases h1 : tqE y.1 y.2 ≠ 0
    · rw [if_pos h1] at h; exact absurd h h1
    · rw [if_neg h1] at h
      by_cases h2 : y.1 ≤ p
      · rw [if_pos h2] at h; omega
      · rw [if_neg h2] at h
        rcases List.mem_cons.1 hx with rfl | hx
        · exact ⟨by omega, Decidable.not_not.1 h1⟩
        · have := tqF_mem l _ h x hx
          exact ⟨by omega, this.2⟩
/-- the first record and the last -/
def fstT (l : List (Int × Int)) : Int × Int := l.getD 0 (0, 0)
def lstT (l : List (Int × Int)) : Int × Int := l.getD (l.length - 1) (0, 0)
theorem tqsE_ok {l : List (Int × Int)} (h : tqsE l = 0) (h2 : 2 ≤ l.length) : l.length ≤ 60 ∧ (0 ≤ (fstT l).1 ∧ (fstT l).1 < (lstT l).1 ∧ (lstT l).1 ≤ 100000) ∧ (0 ≤ (fstT l).2 ∧ (fstT l).2 ≤ 100000) ∧ 0 ≤ (lstT l).2 ∧ (lstT l).2 ≤ 100000 := by
  unfold tqsE at h
  by_cases h1 : 60 < l.length
  · rw [if_pos h1] at h; omega
  · rw [if_neg h1] at h
    have hm := tqF_mem l _ h
    obtain ⟨x, r, rfl⟩ : ∃ x r, l = x :: r := by cases l with
      | nil => simp at h2
      | cons x r => exact ⟨x, r, rfl⟩
    have hr : 0 < r.length := by simp at h2; omega
    have e1 : fstT (x :: r) = x := rfl
    have e2 : lstT (x :: r) = r[r.length - 1] := by
      unfold lstT
      rw [List.getD_eq_getElem?_getD, List.getElem?_eq_getElem (by simp)]
      simp [List.getElem_cons, Nat.ne_of_gt hr]
    rw [e1, e2]
    have hx := hm x (by simp)
    have hy := hm (r[r.length - 1]) (by simp)
    have hxo := tqE_ok hx.2
    have hyo := tqE_ok hy.2
    unfold tqF at h
    rw [if_neg (by simp [hx.2])] at h
    rw [if_neg (by omega)] at h
    have hz := tqF_mem r _ h (r[r.length - 1]) (List.getElem_mem _)
    exact ⟨by omega, ⟨hxo.1.1, hz.1, hyo.1.2⟩, hxo.2, hyo.2⟩
/-- the error of the arguments, and the answer -/
def loE (l : List (Int × Int)) (m : Int) : Int := orV [tqsE l, rgE m 0 100000]
def loN (l : List (Int × Int)) (m : Int) : Int := lsN (fstT l).1 (fstT l).2 (lstT l).1 (lstT l).2 m
def loV (l : List (Int × Int)) (m : Int) : Int × Int := if loE l m ≠ 0 then (0, loE l m) else if l.length < 2 then (0, 10) else if 100000 < loN l m then (0, 12) else (loN l m, 0)
theorem TqAt.ends {w : World} {a : Option Addr} {l : List (Int × Int)} {n : Nat} (h : TqAt w a l) (hn : l.length = n + 2) : ∃ b o, a = some ⟨b, o, none⟩ ∧ b < w.heap.size ∧
    (w.cell? ⟨b, o, none⟩ = some (.int .i64 (fstT l).1) ∧ w.cell? ⟨b, o + 1, none⟩ = some (.int .i64 (fstT l).2)) ∧ w.cell? ⟨b, o + (n + 1) * 2, none⟩ = some (.int .i64 (lstT l).1) ∧ w.cell? ⟨b, o + (n + 1) * 2 + 1, none⟩ = some (.int .i64 (lstT l).2) := by
  rcases h with h | ⟨b, o, e, hl, hc⟩
  · subst h; simp at hn
  · have e1 : fstT l = l[0] := by unfold fstT; rw [List.getD_eq_getElem?_getD, List.getElem?_eq_getElem (by omega)]; rfl
    have e2 : lstT l = l[n + 1] := by
      unfold lstT
      rw [List.getD_eq_getElem?_getD, List.getElem?_eq_getElem (by omega)]
      simp [hn]
    rw [e1, e2]
    have h0 := hc 0 (by omega); have h1 := hc (n + 1) (by omega)
    simp only [Nat.zero_mul, Nat.add_zero] at h0
    exact ⟨b, o, e, hl, h0, h1⟩
set_option maxRecDepth 100000 in
set_option maxHeartbeats 3200000 in
theorem looseOnT_any (l : List (Int × Int)) (a : Option Addr) (cap : Nat) (m : Int) (w : World) (hlen : l.length ≤ 1000) (hs : TqAt w a l) :
    Calls Tryd.prog 25 #[.slice a l.length cap, .int .i64 m] w fun e w' => e = .returned (.tuple #[.int .i64 (loV l m).1, .int .i64 (loV l m).2]) ∧ Below w.heap.size w w' := by
  have HS := Lib.hid hs; clear hs
  have HE := Lib.hid (show ∃ x, loE l m = x from ⟨_, rfl⟩)
  obtain ⟨e0, he0⟩ := HE.out
  have CO := Lib.hid (fun v b (h : RowAt v b [tqsE l, rgE m 0 100000]) => (show Calls Tryd.prog 70 #[.slice (some ⟨b, 0, none⟩) 2 2] v fun e w' => e = .returned (.int .i64 e0) ∧ w' = v from by
    have h := or_any b 2 [tqsE l, rgE m 0 100000] v (by simp) h
    rw [show orV [tqsE l, rgE m 0 100000] = e0 from he0] at h
    exact h))
  have H0 := Lib.hid he0; clear he0 HE
  go_enter Tryd.func25, Tryd.ntmps25
  go_wp2_with fail
  refine (checkTorques_any l a cap w hlen HS.out).mono ?_
  rintro e w1 ⟨rfl, B1⟩
  have S1 := Lib.hid (HS.out.keep B1)
  have z1 := B1.size
  clear HS
  go_wp2_with (go_at_call 78; refine (forceErr_any _ _).mono ?_; rintro e w' ⟨rfl, hw'⟩; have hw' := hw'.symm; subst hw')
  refine (CO.out (w1.alloc (.cells #[.int .i64 (tqsE l), .int .i64 (rgE m 0 100000)] 23)) w1.heap.size (RowAt.of_box (Box.new w1 _ 23 (n := w1.heap.size) rfl))).mono ?_
  rintro e w2 ⟨rfl, hw2⟩
  have B2 : Below w.heap.size w w2 := by rw [hw2]; (repeat' (first | (with_reducible exact Below.refl _ _) | (with_reducible assumption) | (with_reducible refine Below.drew ?_) | (with_reducible refine below_drewN ?_ _) | (with_reducible refine Below.setCell ?_ ?_ _) | (with_reducible refine Below.alloc ?_ ?_ _) | go_size | omega))
  have S2 := Lib.hid (show TqAt w2 a l by rw [hw2]; exact S1.out.keep (by (repeat' (first | (with_reducible exact Below.refl _ _) | (with_reducible assumption) | (with_reducible refine Below.drew ?_) | (with_reducible refine below_drewN ?_ _) | (with_reducible refine Below.setCell ?_ ?_ _) | (with_reducible refine Below.alloc ?_ ?_ _) | go_size | omega))))
  have z2 := B2.size
  clear hw2 S1 CO B1
  by_cases hz : e0 = 0
  · subst hz
    obtain ⟨hT, hR⟩ := orV_two H0.out
    have hm := rgE_in hR
    by_cases h2 : l.length < 2
    · have HV := Lib.hid (show loV l m = (0, 10) by unfold loV; rw [if_neg (by rw [H0.out]; simp), if_pos h2])
      go_wp2_with fail
      go_ret2
      exact ⟨by rw [HV.out]; rfl, B2⟩
    · obtain ⟨n, hn⟩ : ∃ n, l.length = n + 2 := ⟨l.length - 2, by omega⟩
      obtain ⟨-, ⟨a0, a1, a2⟩, hF, hG⟩ := tqsE_ok hT (by omega)
      obtain ⟨b, o, rfl, hb, ⟨c0, c1⟩, c2, c3⟩ := S2.out.ends hn
      have HVV := Lib.hid (show loV l m = if 100000 < loN l m then (0, 12) else (loN l m, 0) by unfold loV; rw [if_neg (by rw [H0.out]; simp), if_neg h2])
      have CL := Lib.hid (fun v => looseOn_any (fstT l).1 (fstT l).2 (lstT l).1 (lstT l).2 m v hF hG hm a0 a1 a2)
      have HN := Lib.hid (show ∃ N, loN l m = N from ⟨_, rfl⟩)
      obtain ⟨N, hN⟩ := HN.out
      have hN' : lsN (fstT l).1 (fstT l).2 (lstT l).1 (lstT l).2 m = N := hN
      rw [hN'] at CL
      rw [hN] at HVV
      clear hT hR HN hN hN' hF hG a0 a1 a2 H0
      generalize (fstT l).1 = x0 at *; generalize (fstT l).2 = x1 at *; generalize (lstT l).1 = y0 at *; generalize (lstT l).2 = y1 at *
      have w1 : IntKind.i64.wrap ((n : Int) + 2 - 1) = (n : Int) + 1 := by rw [show (n : Int) + 2 - 1 = n + 1 by omega]; exact IntWalk.i64_in _ (by omega)
      have hn1 : (2 : Int) ≤ (n : Int) + 2 := by omega
      have hn0 : (0 : Int) < (n : Int) + 2 := by omega
      have hn3 : (n : Int) + 1 < (n : Int) + 2 := by omega
      have hn4 : (0 : Int) ≤ (n : Int) + 1 := by omega
      rw [hn]
      go_wp2_with fail
      go_still_tail 10, (by kernel_rfl)
      repeat still_step
      try refine wpStill_nil ?_
      go_wp2_with fail
      refine (CL.out _).mono ?_
      rintro e w3 ⟨rfl, h3⟩
      have B3 : Below w.heap.size w w3 := below_via (by (repeat' (first | (with_reducible exact Below.refl _ _) | (with_reducible assumption) | (with_reducible refine Below.drew ?_) | (with_reducible refine below_drewN ?_ _) | (with_reducible refine Below.setCell ?_ ?_ _) | (with_reducible refine Below.alloc ?_ ?_ _) | go_size | omega))) h3
      clear h3 CL
      by_cases hN : 100000 < N
      · have HW := Lib.hid (show loV l m = (0, 12) by rw [HVV.out, if_pos hN])
        go_wp2_with fail
        go_ret2
        exact ⟨by rw [HW.out]; rfl, B3⟩
      · have HW := Lib.hid (show loV l m = (N, 0) by rw [HVV.out, if_neg hN])
        go_wp2_with fail
        go_ret2
        exact ⟨by rw [HW.out]; rfl, B3⟩
  · have hz' : (e0 != 0) = true := by simpa using hz
    have HV := Lib.hid (show loV l m = (0, e0) by unfold loV; rw [if_pos (by rw [H0.out]; exact hz), H0.out])
    go_wp2_with fail
    go_ret2
    exact ⟨by rw [HV.out]; rfl, B2⟩
end Go.Proofs.YtnjlifmjjihahaaDoor
