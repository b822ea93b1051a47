/-
  Vectors of package plate: sums, opposites, and whether one of their parts is beyond a limit.
-/
import Derived.Test.YtahfliboanphkaaFrc
import Derived.Laws.EntriesVeiled
namespace Go.Proofs.Ytahfliboanphkaa
open Go.RowKit
theorem Box.keepB {B : Nat} {u w1 : World} {b : Nat} {cs : Array Value} {t : TypeId} (hb : b < B) (h : Box u b cs t) (hw : Below B u w1) : Box w1 b cs t := (hw.block b hb).trans h
abbrev vec (a b c : Int) : Value := .agg #[.int .i64 a, .int .i64 b, .int .i64 c]
def Big (m a b c : Int) : Prop := (-m ≤ a ∧ a ≤ m) ∧ (-m ≤ b ∧ b ≤ m) ∧ (-m ≤ c ∧ c ≤ m)
theorem Big.neg {m a b c : Int} (h : Big m a b c) : Big m (-a) (-b) (-c) := by unfold Big at *; omega
theorem Big.up {m m' a b c : Int} (h : Big m a b c) (hm : m ≤ m') : Big m' a b c := by unfold Big at *; omega
set_option maxHeartbeats 800000 in
theorem vplus_any (a0 a1 a2 b0 b1 b2 : Int) (w : World) (ha : Big 4000000000000000000 a0 a1 a2) (hb : Big 4000000000000000000 b0 b1 b2) :
    Calls Try.prog 80 #[vec a0 a1 a2, vec b0 b1 b2] w fun e w' => e = .returned (vec (a0 + b0) (a1 + b1) (a2 + b2)) ∧ Below w.heap.size w w' := by
  obtain ⟨⟨x0, x1⟩, ⟨x2, x3⟩, x4, x5⟩ := ha
  obtain ⟨⟨y0, y1⟩, ⟨y2, y3⟩, y4, y5⟩ := hb
  go_enter Try.func80, Try.ntmps80
  go_wp2_with fail
  go_returns
  exact ⟨rfl, by (repeat' (first | (with_reducible exact Below.refl _ _) | (with_reducible assumption) | (with_reducible refine Below.drew ?_) | (with_reducible refine below_drewN ?_ _) | (with_reducible refine Below.setCell ?_ ?_ _) | (with_reducible refine Below.alloc ?_ ?_ _) | go_size | omega))⟩
set_option maxHeartbeats 800000 in
theorem vopp_any (a0 a1 a2 : Int) (w : World) (ha : Big 4000000000000000000 a0 a1 a2) :
    Calls Try.prog 46 #[vec a0 a1 a2] w fun e w' => e = .returned (vec (-a0) (-a1) (-a2)) ∧ Below w.heap.size w w' := by
  obtain ⟨⟨x0, x1⟩, ⟨x2, x3⟩, x4, x5⟩ := ha
  go_enter Try.func46, Try.ntmps46
  go_wp2_with fail
  go_returns
  exact ⟨rfl, by (repeat' (first | (with_reducible exact Below.refl _ _) | (with_reducible assumption) | (with_reducible refine Below.drew ?_) | (with_reducible refine below_drewN ?_ _) | (with_reducible refine Below.setCell ?_ ?_ _) | (with_reducible refine Below.alloc ?_ ?_ _) | go_size | omega))⟩
set_option maxHeartbeats 1600000 in
theorem vfrom_any (a0 a1 a2 b0 b1 b2 : Int) (w : World) (ha : Big 4000000000000000000 a0 a1 a2) (hb : Big 4000000000000000000 b0 b1 b2) :
    Calls Try.prog 72 #[vec a0 a1 a2, vec b0 b1 b2] w fun e w' => e = .returned (vec (a0 + -b0) (a1 + -b1) (a2 + -b2)) ∧ Below w.heap.size w w' := by
  have C1 := Lib.hid (fun u => vopp_any b0 b1 b2 u hb)
  have C2 := Lib.hid (fun u => vplus_any a0 a1 a2 (-b0) (-b1) (-b2) u ha hb.neg)
  clear ha hb
  go_enter Try.func72, Try.ntmps72
  go_wp2_with fail
  have BX0 := (((Box.new w #[.int .i64 a0, .int .i64 a1, .int .i64 a2] 91 (n := w.heap.size) (by simp)).alloc (.cells #[.int .i64 b0, .int .i64 b1, .int .i64 b2] 91)).alloc (.cells #[.int .i64 0, .int .i64 0, .int .i64 0] 91))
  have BX1 := ((Box.new (w.alloc (.cells #[.int .i64 a0, .int .i64 a1, .int .i64 a2] 91)) #[.int .i64 b0, .int .i64 b1, .int .i64 b2] 91 (n := w.heap.size + 1) (by simp)).alloc (.cells #[.int .i64 0, .int .i64 0, .int .i64 0] 91))
  have BX2 := (Box.new ((w.alloc (.cells #[.int .i64 a0, .int .i64 a1, .int .i64 a2] 91)).alloc (.cells #[.int .i64 b0, .int .i64 b1, .int .i64 b2] 91)) #[.int .i64 0, .int .i64 0, .int .i64 0] 91 (n := w.heap.size + 1 + 1) (by simp))
  have BW : Below w.heap.size w (((w.alloc (.cells #[.int .i64 a0, .int .i64 a1, .int .i64 a2] 91)).alloc (.cells #[.int .i64 b0, .int .i64 b1, .int .i64 b2] 91)).alloc (.cells #[.int .i64 0, .int .i64 0, .int .i64 0] 91)) := by go_grown
  generalize (((w.alloc (.cells #[.int .i64 a0, .int .i64 a1, .int .i64 a2] 91)).alloc (.cells #[.int .i64 b0, .int .i64 b1, .int .i64 b2] 91)).alloc (.cells #[.int .i64 0, .int .i64 0, .int .i64 0] 91)) = u at *
  have l0 := BX0.lt
  have HX0 := Lib.hid BX0
  clear BX0
  have l1 := BX1.lt
  have HX1 := Lib.hid BX1
  clear BX1
  have l2 := BX2.lt
  have HX2 := Lib.hid BX2
  clear BX2
  have K := Lib.hid (fun (w' : World) (hw : Below (w.heap.size + 2) u w') => show (w'.cell? ⟨w.heap.size, 0, none⟩ = some (.int .i64 a0) ∧ w'.cell? ⟨w.heap.size, 1, none⟩ = some (.int .i64 a1) ∧ w'.cell? ⟨w.heap.size, 2, none⟩ = some (.int .i64 a2)) ∧ (w'.cell? ⟨w.heap.size + 1, 0, none⟩ = some (.int .i64 b0) ∧ w'.cell? ⟨w.heap.size + 1, 1, none⟩ = some (.int .i64 b1) ∧ w'.cell? ⟨w.heap.size + 1, 2, none⟩ = some (.int .i64 b2)) from ⟨⟨(Box.keepB (by omega) (HX0.out) hw).cell 0, (Box.keepB (by omega) (HX0.out) hw).cell 1, (Box.keepB (by omega) (HX0.out) hw).cell 2⟩, ⟨(Box.keepB (by omega) (HX1.out) hw).cell 0, (Box.keepB (by omega) (HX1.out) hw).cell 1, (Box.keepB (by omega) (HX1.out) hw).cell 2⟩⟩)
  go_region_held3 (fun w' => (w'.cell? ⟨w.heap.size, 0, none⟩ = some (.int .i64 a0) ∧ w'.cell? ⟨w.heap.size, 1, none⟩ = some (.int .i64 a1) ∧ w'.cell? ⟨w.heap.size, 2, none⟩ = some (.int .i64 a2)) ∧ (w'.cell? ⟨w.heap.size + 1, 0, none⟩ = some (.int .i64 b0) ∧ w'.cell? ⟨w.heap.size + 1, 1, none⟩ = some (.int .i64 b1) ∧ w'.cell? ⟨w.heap.size + 1, 2, none⟩ = some (.int .i64 b2)))
    ((refine K.out _ ?_; (repeat' (first | (with_reducible exact Below.refl _ _) | (with_reducible assumption) | (with_reducible refine Below.drew ?_) | (with_reducible refine below_drewN ?_ _) | (with_reducible refine Below.setCell ?_ ?_ _) | (with_reducible refine Below.alloc ?_ ?_ _) | go_size | omega)); done))
    (first | (go_at_call 46; refine (C1.out _).mono ?_; rintro e w8 ⟨rfl, h8⟩; have hB8 : Below u.heap.size u w8 := below_via (by (repeat' (first | (with_reducible exact Below.refl _ _) | (with_reducible assumption) | (with_reducible refine Below.drew ?_) | (with_reducible refine below_drewN ?_ _) | (with_reducible refine Below.setCell ?_ ?_ _) | (with_reducible refine Below.alloc ?_ ?_ _) | go_size | omega))) h8; clear h8; have hz8 := hB8.size; have hW8 : Below (w.heap.size + 2) u w8 := hB8.mono (by omega); obtain ⟨⟨k0_0, k0_1, k0_2⟩, ⟨k1_0, k1_1, k1_2⟩⟩ := K.out w8 hW8) | (go_at_call 80; refine (C2.out _).mono ?_; rintro e w9 ⟨rfl, h9⟩; have hB9 : Below u.heap.size u w9 := below_via (by (repeat' (first | (with_reducible exact Below.refl _ _) | (with_reducible assumption) | (with_reducible refine Below.drew ?_) | (with_reducible refine below_drewN ?_ _) | (with_reducible refine Below.setCell ?_ ?_ _) | (with_reducible refine Below.alloc ?_ ?_ _) | go_size | omega))) h9; clear h9; have hz9 := hB9.size; have hW9 : Below (w.heap.size + 2) u w9 := hB9.mono (by omega); obtain ⟨⟨k0_0, k0_1, k0_2⟩, ⟨k1_0, k1_1, k1_2⟩⟩ := K.out w9 hW9; obtain ⟨r0, r1, r2, f0, f1, f2⟩ := (HX2.out.keep hB9).three; have lr := (HX2.out.keep hB9).lt))
  all_goals
    have RV : Box (((w9.setCell ⟨w.heap.size + 1 + 1, 0, none⟩ (.int .i64 ((a0 + -b0)))).setCell ⟨w.heap.size + 1 + 1, 1, none⟩ (.int .i64 ((a1 + -b1)))).setCell ⟨w.heap.size + 1 + 1, 2, none⟩ (.int .i64 ((a2 + -b2)))) (w.heap.size + 1 + 1) #[.int .i64 ((a0 + -b0)), .int .i64 ((a1 + -b1)), .int .i64 ((a2 + -b2))] 91 := ((((HX2.out.keep hB9).set 0 _).set 1 _).set 2 _)
    have BL : Below w.heap.size w w9 := below_via BW hB9
    have BV : Below w.heap.size w (((w9.setCell ⟨w.heap.size + 1 + 1, 0, none⟩ (.int .i64 ((a0 + -b0)))).setCell ⟨w.heap.size + 1 + 1, 1, none⟩ (.int .i64 ((a1 + -b1)))).setCell ⟨w.heap.size + 1 + 1, 2, none⟩ (.int .i64 ((a2 + -b2)))) := by (repeat' (first | (with_reducible exact Below.refl _ _) | (with_reducible assumption) | (with_reducible refine Below.drew ?_) | (with_reducible refine below_drewN ?_ _) | (with_reducible refine Below.setCell ?_ ?_ _) | (with_reducible refine Below.alloc ?_ ?_ _) | go_size | omega))
    generalize (((w9.setCell ⟨w.heap.size + 1 + 1, 0, none⟩ (.int .i64 ((a0 + -b0)))).setCell ⟨w.heap.size + 1 + 1, 1, none⟩ (.int .i64 ((a1 + -b1)))).setCell ⟨w.heap.size + 1 + 1, 2, none⟩ (.int .i64 ((a2 + -b2)))) = v at *
    have s0 := RV.cell 0
    have s1 := RV.cell 1
    have s2 := RV.cell 2
    simp at s0 s1 s2
    go_wp2_with fail
    refine bodyPost_ret (v := vec (a0 + -b0) (a1 + -b1) (a2 + -b2)) (by simp [results, Try.results72, go_sem, s0, s1, s2]) rfl ⟨rfl, BV⟩
theorem beyond_any (m : Int) (w : World) :
    Calls Try.prog 74 #[.int .i64 m] w fun e w' => e = .returned (.func (.func 93) #[] #[.pointer (some ⟨w.heap.size, 0, none⟩)]) ∧ Box w' w.heap.size #[.int .i64 m] 3 ∧ Below w.heap.size w w' := by
  go_enter Try.func74, Try.ntmps74
  go_wp2_with fail
  go_ret
  exact ⟨rfl, Box.new _ _ _ rfl, by go_grown⟩
theorem beyond1_any (n m : Int) (c : Nat) (w : World) (hm0 : 0 ≤ m) (hm : m ≤ 9223372036854775807) (hc : w.cell? ⟨c, 0, none⟩ = some (.int .i64 m)) :
    Calls Try.prog 93 #[.int .i64 n, .pointer (some ⟨c, 0, none⟩)] w fun e w' => e = .returned (.bool (!inB n m)) ∧ w = w' := by
  go_enter Try.func93, Try.ntmps93
  go_wp2_with (go_at_call 64; refine (within_any _ _ _ (by omega) (by omega)).mono ?_; rintro e w' ⟨rfl, rfl⟩)
  go_ret
  exact ⟨rfl, rfl⟩
/-- which of three numbers is the first beyond a limit -/
def firstB (m a0 a1 a2 : Int) : Int := if inB a0 m = false then 0 else if inB a1 m = false then 1 else if inB a2 m = false then 2 else -1
set_option maxHeartbeats 1600000 in
theorem index3_any (m a0 a1 a2 : Int) (b c : Nat) (w : World) (hm0 : 0 ≤ m) (hm : m ≤ 9223372036854775807) (hb : Box w b #[.int .i64 a0, .int .i64 a1, .int .i64 a2] 91) (hc : w.cell? ⟨c, 0, none⟩ = some (.int .i64 m)) :
    Calls Try.prog 104 #[.slice (some ⟨b, 0, none⟩) 3 3, .func (.func 93) #[] #[.pointer (some ⟨c, 0, none⟩)]] w fun e w' => e = .returned (.int .i64 (firstB m a0 a1 a2)) ∧ w = w' := by
  obtain ⟨k0, k1, k2, -⟩ := hb.three
  clear hb
  cases h0 : inB a0 m
  · have F := Lib.hid (show firstB m a0 a1 a2 = 0 by unfold firstB; rw [if_pos h0])
    go_enter Try.func104, Try.ntmps104
    go_wp2_with fail
    refine wp_loop_rounds 4 ?_
    rw [rounds_succ]; go_wp2_with (go_at_call 93; refine (beyond1_any _ _ _ _ hm0 hm hc).mono ?_; rintro e w' ⟨rfl, rfl⟩)
    go_ret
    exact ⟨ret_int (by rw [F.out]), rfl⟩
  cases h1 : inB a1 m
  · have F := Lib.hid (show firstB m a0 a1 a2 = 1 by unfold firstB; rw [if_neg (by rw [h0]; simp), if_pos h1])
    go_enter Try.func104, Try.ntmps104
    go_wp2_with fail
    refine wp_loop_rounds 4 ?_
    iterate 2 (rw [rounds_succ]; go_wp2_with (go_at_call 93; refine (beyond1_any _ _ _ _ hm0 hm hc).mono ?_; rintro e w' ⟨rfl, rfl⟩))
    go_ret
    exact ⟨ret_int (by rw [F.out]), rfl⟩
  cases h2 : inB a2 m
  · have F := Lib.hid (show firstB m a0 a1 a2 = 2 by unfold firstB; rw [if_neg (by rw [h0]; simp), if_neg (by rw [h1]; simp), if_pos h2])
    go_enter Try.func104, Try.ntmps104
    go_wp2_with fail
    refine wp_loop_rounds 4 ?_
    iterate 3 (rw [rounds_succ]; go_wp2_with (go_at_call 93; refine (beyond1_any _ _ _ _ hm0 hm hc).mono ?_; rintro e w' ⟨rfl, rfl⟩))
    go_ret
    exact ⟨ret_int (by rw [F.out]), rfl⟩
  · have F := Lib.hid (show firstB m a0 a1 a2 = -1 by unfold firstB; rw [if_neg (by rw [h0]; simp), if_neg (by rw [h1]; simp), if_neg (by rw [h2]; simp)])
    go_enter Try.func104, Try.ntmps104
    go_wp2_with fail
    refine wp_loop_rounds 4 ?_
    iterate 4 (rw [rounds_succ]; go_wp2_with (go_at_call 93; refine (beyond1_any _ _ _ _ hm0 hm hc).mono ?_; rintro e w' ⟨rfl, rfl⟩))
    go_ret
    exact ⟨ret_int (by rw [F.out]), rfl⟩
def beyV (m a0 a1 a2 : Int) : Bool := !(inB a0 m && inB a1 m && inB a2 m)
theorem firstB_bd (m a0 a1 a2 : Int) : -1 ≤ firstB m a0 a1 a2 ∧ firstB m a0 a1 a2 ≤ 2 ∧ decide (0 ≤ firstB m a0 a1 a2) = beyV m a0 a1 a2 := by
  unfold firstB beyV
  cases inB a0 m <;> cases inB a1 m <;> cases inB a2 m <;> simp
set_option maxHeartbeats 800000 in
theorem contains3_any (m a0 a1 a2 : Int) (b c : Nat) (w : World) (hm0 : 0 ≤ m) (hm : m ≤ 9223372036854775807) (hb : Box w b #[.int .i64 a0, .int .i64 a1, .int .i64 a2] 91) (hc : w.cell? ⟨c, 0, none⟩ = some (.int .i64 m)) :
    Calls Try.prog 92 #[.slice (some ⟨b, 0, none⟩) 3 3, .func (.func 93) #[] #[.pointer (some ⟨c, 0, none⟩)]] w fun e w' => e = .returned (.bool (beyV m a0 a1 a2)) ∧ w = w' := by
  obtain ⟨f0, f1, f2⟩ := firstB_bd m a0 a1 a2
  have F2 := Lib.hid f2; clear f2
  go_enter Try.func92, Try.ntmps92
  go_wp2_with fail
  refine (index3_any m a0 a1 a2 b c w hm0 hm hb hc).mono ?_
  rintro e w' ⟨rfl, rfl⟩
  clear hb
  generalize firstB m a0 a1 a2 = i at *
  go_wp2_with fail
  go_ret
  exact ⟨ret_bool (by rw [← F2.out]), rfl⟩
set_option maxHeartbeats 800000 in
theorem hasOne_any (m a0 a1 a2 : Int) (c : Nat) (w : World) (hm0 : 0 ≤ m) (hm : m ≤ 9223372036854775807) (hcl : c < w.heap.size) (hc : w.cell? ⟨c, 0, none⟩ = some (.int .i64 m)) :
    Calls Try.prog 73 #[vec a0 a1 a2, .func (.func 93) #[] #[.pointer (some ⟨c, 0, none⟩)]] w fun e w' => e = .returned (.bool (beyV m a0 a1 a2)) ∧ Below w.heap.size w w' := by
  have X := Lib.hid (contains3_any m a0 a1 a2 w.heap.size c (w.alloc (.cells #[.int .i64 a0, .int .i64 a1, .int .i64 a2] 91)) hm0 hm (Box.new _ _ _ rfl) ((World.cell?_alloc_past _ _ _ hcl).trans hc))
  go_enter Try.func73, Try.ntmps73
  go_wp2_with fail
  refine X.out.mono ?_
  rintro e w' ⟨rfl, rfl⟩
  go_wp2_with fail
  go_ret
  exact ⟨rfl, by (repeat' (first | (with_reducible exact Below.refl _ _) | (with_reducible assumption) | (with_reducible refine Below.drew ?_) | (with_reducible refine below_drewN ?_ _) | (with_reducible refine Below.setCell ?_ ?_ _) | (with_reducible refine Below.alloc ?_ ?_ _) | go_size | omega))⟩
end Go.Proofs.Ytahfliboanphkaa
