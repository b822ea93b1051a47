/-
  The walk of Octave: the normal form, the search for the octaves, and the rest.
-/
import Derived.Test.YtbagmfnedgjndaaDoorCto
import Derived.Test.YtbagmfnedgjndaaDoorHalf
import Derived.Laws.EntriesVeiled
namespace Go.Proofs.YtbagmfnedgjndaaDoor
open Go.RowKit
set_option maxHeartbeats 800000 in
theorem lowered_any (bP : Nat) (a b c d n : Int) (w : World) (hP : Box w bP #[.int .i64 a, .int .i64 b, .int .i64 c, .int .i64 d] 47) (h0 : -1000000 ≤ n * d) (h1 : n * d ≤ 1000000) (a0 : -1000000 ≤ a) (a1 : a ≤ 1000000) :
    Calls Tryd.prog 92 #[.int .i64 n, .pointer (some ⟨bP, 0, none⟩)] w fun e w' => e = .returned (.agg #[.int .i64 (a - n * d), .int .i64 b, .int .i64 c]) ∧ Below w.heap.size w w' := by
  obtain ⟨p0, p1, p2, p3, -⟩ := hP.four
  have lt := hP.lt
  have w1 : IntKind.i64.wrap (n * d) = n * d := IntWalk.i64_in _ (by omega)
  have w2 : IntKind.i64.wrap (a - n * d) = a - n * d := IntWalk.i64_in _ (by omega)
  clear hP h0 h1 a0 a1
  go_enter Tryd.func92, Tryd.ntmps92
  go_wp2_with fail
  go_returns
  exact ⟨rfl, by go_grown⟩
theorem octP_bd {a b c d n : Int} (h0 : -3000 ≤ n * d) (h1 : n * d ≤ 3000) (a0 : -400 ≤ a) (a1 : a ≤ 400) : -10000 ≤ a - n * d ∧ a - n * d ≤ 10000 := by omega
set_option maxHeartbeats 800000 in
theorem octTest_any (bC bP : Nat) (a b c d n : Int) (w : World) (hP : Box w bP #[.int .i64 a, .int .i64 b, .int .i64 c, .int .i64 d] 47)
    (hC : Box w bC #[.func (.func 92) #[] #[.pointer (some ⟨bP, 0, none⟩)]] 131) (hp : Primes w) (h0 : -3000 ≤ n * d) (h1 : n * d ≤ 3000) (a0 : -400 ≤ a) (a1 : a ≤ 400) (b0 : -400 ≤ b) (b1 : b ≤ 400) (c0 : -400 ≤ c) (c1 : c ≤ 400) :
    Calls Tryd.prog 93 #[.int .i64 n, .pointer (some ⟨bC, 0, none⟩)] w fun e w' => e = .returned (.bool (octP a b c d n)) ∧ Below w.heap.size w w' := by
  obtain ⟨u0, -⟩ := hC.one
  have HP := Lib.hid hP; have HR := Lib.hid hp
  have CT := Lib.hid (fun (u : World) (hu : Primes u) => cto_any (a - n * d) b c u (by omega) (by omega) (by omega) (by omega) (by omega) (by omega) hu)
  have LW := Lib.hid (fun (u : World) (hb : Box u bP #[.int .i64 a, .int .i64 b, .int .i64 c, .int .i64 d] 47) => lowered_any bP a b c d n u hb (by omega) (by omega) (by omega) (by omega))
  clear hP hC hp h0 h1 a0 a1 b0 b1 c0 c1
  go_enter Tryd.func93, Tryd.ntmps93
  go_wp2_with fail
  refine (LW.out _ HP.out).mono ?_
  rintro e w1 ⟨rfl, g1⟩
  have B1 : Below w.heap.size w w1 := below_via (by go_grown) g1
  clear g1
  go_wp2_with fail
  refine (CT.out _ (HR.out.keep B1)).mono ?_
  rintro e w2 ⟨rfl, g2⟩
  have B2 : Below w.heap.size w w2 := below_via B1 g2
  clear g2
  have HE := Lib.hid (show octP a b c d n = decide (0 ≤ sgn (a - n * d) b c) from rfl)
  generalize sgn (a - n * d) b c = s at *
  by_cases hs : 0 ≤ s
  · go_wp2_with fail
    go_ret
    exact ⟨ret_bool (by rw [HE.out] <;> first | (simp; done) | (simp; omega)), B2⟩
  · go_wp2_with fail
    go_ret
    exact ⟨ret_bool (by rw [HE.out] <;> first | (simp; done) | (simp; omega)), B2⟩
theorem enters93 (args : Array Value) (w : World) : (callFunc 93 args).run Tryd.prog w = .ok (.enter 93 args) w :=
  run_enter Tryd.func93 (by kernel_rfl) (by kernel_rfl) args w
def octI (E n : Int) : Int := if E = 0 then n else 0
def octN (A B C D : Int) : Int := half (octP A B C D) (-(2000 / D) - 1) (2000 / D)
theorem octN_mul {D n : Int} (d0 : 1 ≤ D) (d1 : D ≤ 12) (h0 : -(2000 / D) - 1 ≤ n) (h1 : n ≤ 2000 / D) : -3000 ≤ n * D ∧ n * D ≤ 3000 := by
  have e1 : 2000 / D * D ≤ 2000 := Int.ediv_mul_le _ (by omega)
  have e2 := Int.mul_le_mul_of_nonneg_right h1 (show 0 ≤ D by omega)
  have e3 := Int.mul_le_mul_of_nonneg_right h0 (show 0 ≤ D by omega)
  rw [Int.sub_mul, Int.neg_mul] at e3
  omega
set_option maxRecDepth 100000 in
set_option maxHeartbeats 1600000 in
theorem octave_good (a b c d A B C D : Int) (w : World) (hp : Primes w) (hE : nE a b c d = 0) (hA : nX a b c d a = A) (hB : nX a b c d b = B) (hC : nX a b c d c = C) (hD : nX a b c d d = D)
    (hD0 : 1 ≤ D) (hD1 : D ≤ 12) (hA0 : -400 ≤ A) (hA1 : A ≤ 400) (hB0 : -400 ≤ B) (hB1 : B ≤ 400) (hC0 : -400 ≤ C) (hC1 : C ≤ 400) :
    Calls Tryd.prog 43 #[.agg #[.int .i64 a, .int .i64 b, .int .i64 c, .int .i64 d]] w fun e w' =>
      e = .returned (.tuple #[.agg #[.int .i64 (pX (A - octN A B C D * D) B C D (A - octN A B C D * D)), .int .i64 (pX (A - octN A B C D * D) B C D B), .int .i64 (pX (A - octN A B C D * D) B C D C), .int .i64 (pX (A - octN A B C D * D) B C D D)],
        .int .i64 (octI (pE (A - octN A B C D * D) B C D) (octN A B C D)), .int .i64 (pE (A - octN A B C D * D) B C D)]) ∧ Below w.heap.size w w' := by
  have hN := fun u : World => normal_any a b c d u
  simp only [hE, hA, hB, hC, hD] at hN
  have HN := Lib.hid hN; have HP := Lib.hid hp
  have q0 : 0 ≤ 2000 / D := Int.ediv_nonneg (by omega) (by omega)
  have q1 : 2000 / D ≤ 2000 := Int.ediv_le_self _ (by omega)
  have hbd := half_bd (octP A B C D) (-(2000 / D) - 1) (2000 / D) (by omega)
  rw [show half (octP A B C D) (-(2000 / D) - 1) (2000 / D) = octN A B C D from rfl] at hbd
  have om := octN_mul hD0 hD1 hbd.1 hbd.2
  have PO := Lib.hid (fun u : World => pitchOf_any (A - octN A B C D * D) B C D u (by omega) (by omega) (by omega) (by omega) (by omega) (by omega) (by omega) (by omega))
  have LW := Lib.hid (fun (bP : Nat) (u : World) (hb : Box u bP #[.int .i64 A, .int .i64 B, .int .i64 C, .int .i64 D] 47) => lowered_any bP A B C D (octN A B C D) u hb (by omega) (by omega) (by omega) (by omega))
  have GT := Lib.hid (fun (bC bP : Nat) (n : Int) (u : World) (h0 : -(2000 / D) - 1 ≤ n) (h1 : n ≤ 2000 / D) (hP : Box u bP #[.int .i64 A, .int .i64 B, .int .i64 C, .int .i64 D] 47) (hC : Box u bC #[.func (.func 92) #[] #[.pointer (some ⟨bP, 0, none⟩)]] 131) (hp : Primes u) =>
    octTest_any bC bP A B C D n u hP hC hp (octN_mul hD0 hD1 h0 h1).1 (octN_mul hD0 hD1 h0 h1).2 hA0 hA1 hB0 hB1 hC0 hC1)
  have td : (2000 : Int).tdiv D = 2000 / D := Int.tdiv_eq_ediv_of_nonneg (by omega)
  have HBD := Lib.hid hbd
  have n2000 : IntKind.i64.wrap 2000 = 2000 := by decide
  clear hN hp hA hB hC hD hE om hbd
  generalize hM : 2000 / D = M at *
  have HM := Lib.hid hM
  have wm : IntKind.i64.wrap M = M := IntWalk.i64_in _ (by omega)
  have wn : IntKind.i64.wrap (-M) = -M := IntWalk.i64_in _ (by omega)
  have wn1 : IntKind.i64.wrap (-M - 1) = -M - 1 := IntWalk.i64_in _ (by omega)
  clear hM
  go_enter Tryd.func43, Tryd.ntmps43
  go_wp2_with fail
  refine (HN.out _).mono ?_
  rintro e w1 ⟨rfl, h1⟩
  have b1 : Below w.heap.size w w1 := below_via (by go_grown) h1
  have s1 := h1.size
  simp at s1
  have hP := ((Box.new w _ _ rfl).alloc _).keep h1
  have hR := (Box.new (w.alloc _) _ _ (n := w.heap.size + 1) (by simp)).keep h1
  obtain ⟨p0, p1, p2, p3, q0', q1', q2', q3'⟩ := hP.four
  have lR := hR.lt
  have l0 : w.heap.size < w1.heap.size := by omega
  have HBP := Lib.hid hP; have HBR := Lib.hid hR
  have hmf : ∀ (fn : Fn) (first cap : Array Value) (w : World), (Instr.makeFunc fn first cap).run Tryd.prog w = .ok (.func fn first cap) w := fun _ _ _ _ => rfl
  clear h1 hP hR
  go_wp2_with fail
  have hP2 : Box (((((w1.setCell ⟨w.heap.size, 0, none⟩ (.int .i64 A)).setCell ⟨w.heap.size, 1, none⟩ (.int .i64 B)).setCell ⟨w.heap.size, 2, none⟩ (.int .i64 C)).setCell ⟨w.heap.size, 3, none⟩ (.int .i64 D)).alloc (.cells #[.func (.func 92) #[] #[.pointer (some ⟨w.heap.size, 0, none⟩)]] 131)) w.heap.size #[.int .i64 A, .int .i64 B, .int .i64 C, .int .i64 D] 47 := ((((HBP.out.set 0 _).set 1 _).set 2 _).set 3 _).alloc _
  have hC2 : Box (((((w1.setCell ⟨w.heap.size, 0, none⟩ (.int .i64 A)).setCell ⟨w.heap.size, 1, none⟩ (.int .i64 B)).setCell ⟨w.heap.size, 2, none⟩ (.int .i64 C)).setCell ⟨w.heap.size, 3, none⟩ (.int .i64 D)).alloc (.cells #[.func (.func 92) #[] #[.pointer (some ⟨w.heap.size, 0, none⟩)]] 131)) w1.heap.size #[.func (.func 92) #[] #[.pointer (some ⟨w.heap.size, 0, none⟩)]] 131 := Box.new _ _ _ (by simp)
  have hR2 : Box (((((w1.setCell ⟨w.heap.size, 0, none⟩ (.int .i64 A)).setCell ⟨w.heap.size, 1, none⟩ (.int .i64 B)).setCell ⟨w.heap.size, 2, none⟩ (.int .i64 C)).setCell ⟨w.heap.size, 3, none⟩ (.int .i64 D)).alloc (.cells #[.func (.func 92) #[] #[.pointer (some ⟨w.heap.size, 0, none⟩)]] 131)) (w.heap.size + 1) #[.int .i64 0, .int .i64 0, .int .i64 0, .int .i64 0] 47 := ((((HBR.out.other ⟨w.heap.size, 0, none⟩ _ (by first | (simp; done) | (simp; omega))).other ⟨w.heap.size, 1, none⟩ _ (by first | (simp; done) | (simp; omega))).other ⟨w.heap.size, 2, none⟩ _ (by first | (simp; done) | (simp; omega))).other ⟨w.heap.size, 3, none⟩ _ (by first | (simp; done) | (simp; omega))).alloc _
  have bU : Below w.heap.size w (((((w1.setCell ⟨w.heap.size, 0, none⟩ (.int .i64 A)).setCell ⟨w.heap.size, 1, none⟩ (.int .i64 B)).setCell ⟨w.heap.size, 2, none⟩ (.int .i64 C)).setCell ⟨w.heap.size, 3, none⟩ (.int .i64 D)).alloc (.cells #[.func (.func 92) #[] #[.pointer (some ⟨w.heap.size, 0, none⟩)]] 131)) := by go_grown
  generalize (((((w1.setCell ⟨w.heap.size, 0, none⟩ (.int .i64 A)).setCell ⟨w.heap.size, 1, none⟩ (.int .i64 B)).setCell ⟨w.heap.size, 2, none⟩ (.int .i64 C)).setCell ⟨w.heap.size, 3, none⟩ (.int .i64 D)).alloc (.cells #[.func (.func 92) #[] #[.pointer (some ⟨w.heap.size, 0, none⟩)]] 131)) = u at *
  have HP2 := Lib.hid hP2; have HC2 := Lib.hid hC2; have HR2 := Lib.hid hR2
  clear hP2 hC2 hR2 HBP HBR p0 p1 p2 p3 q0' q1' q2' q3' hmf
  refine (greatest_any 93 #[.pointer (some ⟨w1.heap.size, 0, none⟩)] (octP A B C D) (-M - 1) M _ (by omega) (by omega) (by omega) enters93
    (Lib.hid fun n wr hlo hhi hb => (GT.out w1.heap.size w.heap.size n wr (by omega) hhi (HP2.out.keep hb) (HC2.out.keep hb) (HP.out.keep (below_via bU hb))).mono fun e w' ⟨he, hb'⟩ => ⟨he, hb.trans (hb'.mono hb.size)⟩)).mono ?_
  rintro e w5 ⟨rfl, h5⟩
  rw [show half (octP A B C D) (-M - 1) M = octN A B C D by unfold octN; rw [HM.out]]
  have b5 : Below w.heap.size w w5 := below_via bU h5
  have HP5 := Lib.hid (HP2.out.keep h5); have HC5 := Lib.hid (HC2.out.keep h5); have HR5 := Lib.hid (HR2.out.keep h5)
  have z5 := b5.size
  clear h5 bU b1 s1 wm wn wn1 td n2000 GT HP2 HC2 HR2 HBD HM q0 q1
  generalize hn : octN A B C D = n at *
  have HNN := Lib.hid hn
  clear hn
  go_wp2_with fail
  have K := Lib.hid (fun (w' : World) (hw : Below w5.heap.size w5 w') => show w'.cell? ⟨w.heap.size, 3, none⟩ = some (.int .i64 D) ∧ w'.cell? ⟨w1.heap.size, 0, none⟩ = some (.func (.func 92) #[] #[.pointer (some ⟨w.heap.size, 0, none⟩)]) from ⟨(HP5.out.keep hw).cell 3, (HC5.out.keep hw).cell 0⟩)
  have l0 := HP5.out.lt
  have l1 := HC5.out.lt
  have lR := HR5.out.lt
  apply two_step (C := fun qq (_ : Nat) tt => Box tt qq #[.int .i64 (pX (A - n * D) B C D (A - n * D)), .int .i64 (pX (A - n * D) B C D B), .int .i64 (pX (A - n * D) B C D C), .int .i64 (pX (A - n * D) B C D D)] 47 ∧ Box tt (w.heap.size + 1) #[.int .i64 0, .int .i64 0, .int .i64 0, .int .i64 0] 47 ∧ Below w.heap.size w tt)
  case h1 =>
    intro MAIN
    obtain ⟨k0, k1⟩ := K.out w5 (Below.refl _ _)
    go_region_held3 (fun w' => w'.cell? ⟨w.heap.size, 3, none⟩ = some (.int .i64 D) ∧ w'.cell? ⟨w1.heap.size, 0, none⟩ = some (.func (.func 92) #[] #[.pointer (some ⟨w.heap.size, 0, none⟩)]))
      ((refine K.out _ ?_; go_grown; done))
      (first | (go_at_call 92; refine (LW.out w.heap.size _ (by (first | exact HP5.out | exact HP5.out.alloc _ | exact Box.drew HP5.out | exact Box.drew (HP5.out.alloc _)))).mono ?_; rintro e w3 ⟨rfl, h3⟩; have hB3 : Below w5.heap.size w5 w3 := below_via (by go_grown) h3; (try ((first | (have E3 : Box w3 (w5.heap.size) #[.int .i64 0, .int .i64 0, .int .i64 0, .int .i64 0] 47 := Box.keep (Box.new _ #[.int .i64 0, .int .i64 0, .int .i64 0, .int .i64 0] 47 rfl) h3) | (have E3 : Box w3 (w5.heap.size) #[.int .i64 0, .int .i64 0, .int .i64 0, .int .i64 0] 47 := Box.keep (Box.drew (Box.new _ #[.int .i64 0, .int .i64 0, .int .i64 0, .int .i64 0] 47 rfl)) h3) | (have E3 : Box w3 (w5.heap.size) #[.int .i64 0, .int .i64 0, .int .i64 0, .int .i64 0] 47 := Box.keep (Box.drew (Box.drew (Box.new _ #[.int .i64 0, .int .i64 0, .int .i64 0, .int .i64 0] 47 rfl))) h3)); have l3 : w5.heap.size < w3.heap.size := E3.lt; obtain ⟨e0, e1, e2, e3, g0, g1, g2, g3⟩ := E3.four)); clear h3; have hz3 := hB3.size; obtain ⟨k0, k1⟩ := K.out w3 hB3) | (go_at_call 82; refine (PO.out _).mono ?_; rintro e w4 ⟨rfl, h4⟩; have hB34 : Below w3.heap.size w3 w4 := below_via (by go_grown) h4; have hB4 : Below w5.heap.size w5 w4 := hB3.trans (hB34.mono hz3); (try (have E4 := (show Box w3 w5.heap.size #[.int .i64 0, .int .i64 0, .int .i64 0, .int .i64 0] 47 from E3).keep hB34; have l4 : w5.heap.size < w4.heap.size := E4.lt; obtain ⟨e0, e1, e2, e3, g0, g1, g2, g3⟩ := E4.four)); (try ((first | (have G4 : Box w4 (w3.heap.size) #[.int .i64 0, .int .i64 0, .int .i64 0, .int .i64 0] 47 := Box.keep (Box.new _ #[.int .i64 0, .int .i64 0, .int .i64 0, .int .i64 0] 47 rfl) h4) | (have G4 : Box w4 (w3.heap.size) #[.int .i64 0, .int .i64 0, .int .i64 0, .int .i64 0] 47 := Box.keep (Box.drew (Box.new _ #[.int .i64 0, .int .i64 0, .int .i64 0, .int .i64 0] 47 rfl)) h4) | (have G4 : Box w4 (w3.heap.size) #[.int .i64 0, .int .i64 0, .int .i64 0, .int .i64 0] 47 := Box.keep (Box.drew (Box.drew (Box.new _ #[.int .i64 0, .int .i64 0, .int .i64 0, .int .i64 0] 47 rfl))) h4)); have l34 : w3.heap.size < w4.heap.size := G4.lt; obtain ⟨u0, u1, u2, u3, o0, o1, o2, o3⟩ := G4.four)); clear h4; have hz4 := hB4.size; obtain ⟨k0, k1⟩ := K.out w4 hB4; have fc0 : (w4.alloc (.cells #[.int .i64 0, .int .i64 0, .int .i64 0, .int .i64 0] 47)).cell? ⟨w4.heap.size, 0, none⟩ = some (.int .i64 0) := (Box.new w4 _ 47 rfl).cell 0; have fz0 : (w4.alloc (.cells #[.int .i64 0, .int .i64 0, .int .i64 0, .int .i64 0] 47)).frozen? ⟨w4.heap.size, 0, none⟩ = false := (Box.new w4 _ 47 rfl).free 0; have fc1 : (w4.alloc (.cells #[.int .i64 0, .int .i64 0, .int .i64 0, .int .i64 0] 47)).cell? ⟨w4.heap.size, 1, none⟩ = some (.int .i64 0) := (Box.new w4 _ 47 rfl).cell 1; have fz1 : (w4.alloc (.cells #[.int .i64 0, .int .i64 0, .int .i64 0, .int .i64 0] 47)).frozen? ⟨w4.heap.size, 1, none⟩ = false := (Box.new w4 _ 47 rfl).free 1; have fc2 : (w4.alloc (.cells #[.int .i64 0, .int .i64 0, .int .i64 0, .int .i64 0] 47)).cell? ⟨w4.heap.size, 2, none⟩ = some (.int .i64 0) := (Box.new w4 _ 47 rfl).cell 2; have fz2 : (w4.alloc (.cells #[.int .i64 0, .int .i64 0, .int .i64 0, .int .i64 0] 47)).frozen? ⟨w4.heap.size, 2, none⟩ = false := (Box.new w4 _ 47 rfl).free 2; have fc3 : (w4.alloc (.cells #[.int .i64 0, .int .i64 0, .int .i64 0, .int .i64 0] 47)).cell? ⟨w4.heap.size, 3, none⟩ = some (.int .i64 0) := (Box.new w4 _ 47 rfl).cell 3; have fz3 : (w4.alloc (.cells #[.int .i64 0, .int .i64 0, .int .i64 0, .int .i64 0] 47)).frozen? ⟨w4.heap.size, 3, none⟩ = false := (Box.new w4 _ 47 rfl).free 3))
    · have XB : Box (w4.alloc (.cells #[.int .i64 (pX (A - n * D) B C D (A - n * D)), .int .i64 (pX (A - n * D) B C D B), .int .i64 (pX (A - n * D) B C D C), .int .i64 (pX (A - n * D) B C D D)] 47)) (w4.heap.size) #[.int .i64 (pX (A - n * D) B C D (A - n * D)), .int .i64 (pX (A - n * D) B C D B), .int .i64 (pX (A - n * D) B C D C), .int .i64 (pX (A - n * D) B C D D)] 47 := (Box.new w4 #[.int .i64 (pX (A - n * D) B C D (A - n * D)), .int .i64 (pX (A - n * D) B C D B), .int .i64 (pX (A - n * D) B C D C), .int .i64 (pX (A - n * D) B C D D)] 47 rfl)
      have RB : Box (w4.alloc (.cells #[.int .i64 (pX (A - n * D) B C D (A - n * D)), .int .i64 (pX (A - n * D) B C D B), .int .i64 (pX (A - n * D) B C D C), .int .i64 (pX (A - n * D) B C D D)] 47)) (w.heap.size + 1) #[.int .i64 0, .int .i64 0, .int .i64 0, .int .i64 0] 47 := ((HR5.out.keep hB4).alloc _)
      have b4' : Below w.heap.size w w4 := b5.trans (hB4.mono (by omega))
      have hT : Below w.heap.size w (w4.alloc (.cells #[.int .i64 (pX (A - n * D) B C D (A - n * D)), .int .i64 (pX (A - n * D) B C D B), .int .i64 (pX (A - n * D) B C D C), .int .i64 (pX (A - n * D) B C D D)] 47)) := (by repeat' (first | (with_reducible exact Below.refl _ _) | (with_reducible assumption) | (with_reducible refine Below.drew ?_) | (with_reducible refine Below.setCell ?_ ?_ _) | (with_reducible refine Below.alloc ?_ ?_ _) | go_size | omega))
      rw [show (w4.alloc (.cells #[.int .i64 (pX (A - n * D) B C D (A - n * D)), .int .i64 (pX (A - n * D) B C D B), .int .i64 (pX (A - n * D) B C D C), .int .i64 (pX (A - n * D) B C D D)] 47)) = (w4.alloc (.cells #[.int .i64 (pX (A - n * D) B C D (A - n * D)), .int .i64 (pX (A - n * D) B C D B), .int .i64 (pX (A - n * D) B C D C), .int .i64 (pX (A - n * D) B C D D)] 47)) from rfl]
      have HXB := Lib.hid XB; have HRB := Lib.hid RB; have HT := Lib.hid hT
      generalize (w4.alloc (.cells #[.int .i64 (pX (A - n * D) B C D (A - n * D)), .int .i64 (pX (A - n * D) B C D B), .int .i64 (pX (A - n * D) B C D C), .int .i64 (pX (A - n * D) B C D D)] 47)) = tt at *
      obtain ⟨qq, hqq⟩ : ∃ y, y = w4.heap.size := ⟨_, rfl⟩
      rw [← hqq]
      obtain ⟨zz, hzz⟩ : ∃ y : Nat, y = 0 := ⟨0, rfl⟩
      clear hzz
      exact MAIN qq zz tt ⟨(by rw [hqq]; exact HXB.out), HRB.out, HT.out⟩
    · have XB : Box ((((w4.setCell ⟨w3.heap.size, 0, none⟩ (.int .i64 (pX (A - n * D) B C D (A - n * D)))).setCell ⟨w3.heap.size, 1, none⟩ (.int .i64 (pX (A - n * D) B C D B))).setCell ⟨w3.heap.size, 2, none⟩ (.int .i64 (pX (A - n * D) B C D C))).setCell ⟨w3.heap.size, 3, none⟩ (.int .i64 (pX (A - n * D) B C D D))) (w3.heap.size) #[.int .i64 (pX (A - n * D) B C D (A - n * D)), .int .i64 (pX (A - n * D) B C D B), .int .i64 (pX (A - n * D) B C D C), .int .i64 (pX (A - n * D) B C D D)] 47 := (Box.set (Box.set (Box.set (Box.set G4 0 (.int .i64 (pX (A - n * D) B C D (A - n * D)))) 1 (.int .i64 (pX (A - n * D) B C D B))) 2 (.int .i64 (pX (A - n * D) B C D C))) 3 (.int .i64 (pX (A - n * D) B C D D)))
      have RB : Box ((((w4.setCell ⟨w3.heap.size, 0, none⟩ (.int .i64 (pX (A - n * D) B C D (A - n * D)))).setCell ⟨w3.heap.size, 1, none⟩ (.int .i64 (pX (A - n * D) B C D B))).setCell ⟨w3.heap.size, 2, none⟩ (.int .i64 (pX (A - n * D) B C D C))).setCell ⟨w3.heap.size, 3, none⟩ (.int .i64 (pX (A - n * D) B C D D))) (w.heap.size + 1) #[.int .i64 0, .int .i64 0, .int .i64 0, .int .i64 0] 47 := (Box.other (Box.other (Box.other (Box.other (HR5.out.keep hB4) ⟨w3.heap.size, 0, none⟩ (.int .i64 (pX (A - n * D) B C D (A - n * D))) (by first | (simp; done) | (simp; omega))) ⟨w3.heap.size, 1, none⟩ (.int .i64 (pX (A - n * D) B C D B)) (by first | (simp; done) | (simp; omega))) ⟨w3.heap.size, 2, none⟩ (.int .i64 (pX (A - n * D) B C D C)) (by first | (simp; done) | (simp; omega))) ⟨w3.heap.size, 3, none⟩ (.int .i64 (pX (A - n * D) B C D D)) (by first | (simp; done) | (simp; omega)))
      have b4' : Below w.heap.size w w4 := b5.trans (hB4.mono (by omega))
      have hT : Below w.heap.size w ((((w4.setCell ⟨w3.heap.size, 0, none⟩ (.int .i64 (pX (A - n * D) B C D (A - n * D)))).setCell ⟨w3.heap.size, 1, none⟩ (.int .i64 (pX (A - n * D) B C D B))).setCell ⟨w3.heap.size, 2, none⟩ (.int .i64 (pX (A - n * D) B C D C))).setCell ⟨w3.heap.size, 3, none⟩ (.int .i64 (pX (A - n * D) B C D D))) := (by repeat' (first | (with_reducible exact Below.refl _ _) | (with_reducible assumption) | (with_reducible refine Below.drew ?_) | (with_reducible refine Below.setCell ?_ ?_ _) | (with_reducible refine Below.alloc ?_ ?_ _) | go_size | omega))
      rw [show ((((w4.setCell ⟨w3.heap.size, 0, none⟩ (.int .i64 (pX (A - n * D) B C D (A - n * D)))).setCell ⟨w3.heap.size, 1, none⟩ (.int .i64 (pX (A - n * D) B C D B))).setCell ⟨w3.heap.size, 2, none⟩ (.int .i64 (pX (A - n * D) B C D C))).setCell ⟨w3.heap.size, 3, none⟩ (.int .i64 (pX (A - n * D) B C D D))) = ((((w4.setCell ⟨w3.heap.size, 0, none⟩ (.int .i64 (pX (A - n * D) B C D (A - n * D)))).setCell ⟨w3.heap.size, 1, none⟩ (.int .i64 (pX (A - n * D) B C D B))).setCell ⟨w3.heap.size, 2, none⟩ (.int .i64 (pX (A - n * D) B C D C))).setCell ⟨w3.heap.size, 3, none⟩ (.int .i64 (pX (A - n * D) B C D D))) from rfl]
      have HXB := Lib.hid XB; have HRB := Lib.hid RB; have HT := Lib.hid hT
      generalize ((((w4.setCell ⟨w3.heap.size, 0, none⟩ (.int .i64 (pX (A - n * D) B C D (A - n * D)))).setCell ⟨w3.heap.size, 1, none⟩ (.int .i64 (pX (A - n * D) B C D B))).setCell ⟨w3.heap.size, 2, none⟩ (.int .i64 (pX (A - n * D) B C D C))).setCell ⟨w3.heap.size, 3, none⟩ (.int .i64 (pX (A - n * D) B C D D))) = tt at *
      obtain ⟨qq, hqq⟩ : ∃ y, y = w3.heap.size := ⟨_, rfl⟩
      rw [← hqq]
      obtain ⟨zz, hzz⟩ : ∃ y : Nat, y = 0 := ⟨0, rfl⟩
      clear hzz
      exact MAIN qq zz tt ⟨(by rw [hqq]; exact HXB.out), HRB.out, HT.out⟩
    · have XB : Box ((((w4.setCell ⟨w5.heap.size, 0, none⟩ (.int .i64 (pX (A - n * D) B C D (A - n * D)))).setCell ⟨w5.heap.size, 1, none⟩ (.int .i64 (pX (A - n * D) B C D B))).setCell ⟨w5.heap.size, 2, none⟩ (.int .i64 (pX (A - n * D) B C D C))).setCell ⟨w5.heap.size, 3, none⟩ (.int .i64 (pX (A - n * D) B C D D))) (w5.heap.size) #[.int .i64 (pX (A - n * D) B C D (A - n * D)), .int .i64 (pX (A - n * D) B C D B), .int .i64 (pX (A - n * D) B C D C), .int .i64 (pX (A - n * D) B C D D)] 47 := (Box.set (Box.set (Box.set (Box.set E4 0 (.int .i64 (pX (A - n * D) B C D (A - n * D)))) 1 (.int .i64 (pX (A - n * D) B C D B))) 2 (.int .i64 (pX (A - n * D) B C D C))) 3 (.int .i64 (pX (A - n * D) B C D D)))
      have RB : Box ((((w4.setCell ⟨w5.heap.size, 0, none⟩ (.int .i64 (pX (A - n * D) B C D (A - n * D)))).setCell ⟨w5.heap.size, 1, none⟩ (.int .i64 (pX (A - n * D) B C D B))).setCell ⟨w5.heap.size, 2, none⟩ (.int .i64 (pX (A - n * D) B C D C))).setCell ⟨w5.heap.size, 3, none⟩ (.int .i64 (pX (A - n * D) B C D D))) (w.heap.size + 1) #[.int .i64 0, .int .i64 0, .int .i64 0, .int .i64 0] 47 := (Box.other (Box.other (Box.other (Box.other (HR5.out.keep hB4) ⟨w5.heap.size, 0, none⟩ (.int .i64 (pX (A - n * D) B C D (A - n * D))) (by first | (simp; done) | (simp; omega))) ⟨w5.heap.size, 1, none⟩ (.int .i64 (pX (A - n * D) B C D B)) (by first | (simp; done) | (simp; omega))) ⟨w5.heap.size, 2, none⟩ (.int .i64 (pX (A - n * D) B C D C)) (by first | (simp; done) | (simp; omega))) ⟨w5.heap.size, 3, none⟩ (.int .i64 (pX (A - n * D) B C D D)) (by first | (simp; done) | (simp; omega)))
      have b4' : Below w.heap.size w w4 := b5.trans (hB4.mono (by omega))
      have hT : Below w.heap.size w ((((w4.setCell ⟨w5.heap.size, 0, none⟩ (.int .i64 (pX (A - n * D) B C D (A - n * D)))).setCell ⟨w5.heap.size, 1, none⟩ (.int .i64 (pX (A - n * D) B C D B))).setCell ⟨w5.heap.size, 2, none⟩ (.int .i64 (pX (A - n * D) B C D C))).setCell ⟨w5.heap.size, 3, none⟩ (.int .i64 (pX (A - n * D) B C D D))) := (by repeat' (first | (with_reducible exact Below.refl _ _) | (with_reducible assumption) | (with_reducible refine Below.drew ?_) | (with_reducible refine Below.setCell ?_ ?_ _) | (with_reducible refine Below.alloc ?_ ?_ _) | go_size | omega))
      rw [show ((((w4.setCell ⟨w5.heap.size, 0, none⟩ (.int .i64 (pX (A - n * D) B C D (A - n * D)))).setCell ⟨w5.heap.size, 1, none⟩ (.int .i64 (pX (A - n * D) B C D B))).setCell ⟨w5.heap.size, 2, none⟩ (.int .i64 (pX (A - n * D) B C D C))).setCell ⟨w5.heap.size, 3, none⟩ (.int .i64 (pX (A - n * D) B C D D))) = ((((w4.setCell ⟨w5.heap.size, 0, none⟩ (.int .i64 (pX (A - n * D) B C D (A - n * D)))).setCell ⟨w5.heap.size, 1, none⟩ (.int .i64 (pX (A - n * D) B C D B))).setCell ⟨w5.heap.size, 2, none⟩ (.int .i64 (pX (A - n * D) B C D C))).setCell ⟨w5.heap.size, 3, none⟩ (.int .i64 (pX (A - n * D) B C D D))) from rfl]
      have HXB := Lib.hid XB; have HRB := Lib.hid RB; have HT := Lib.hid hT
      generalize ((((w4.setCell ⟨w5.heap.size, 0, none⟩ (.int .i64 (pX (A - n * D) B C D (A - n * D)))).setCell ⟨w5.heap.size, 1, none⟩ (.int .i64 (pX (A - n * D) B C D B))).setCell ⟨w5.heap.size, 2, none⟩ (.int .i64 (pX (A - n * D) B C D C))).setCell ⟨w5.heap.size, 3, none⟩ (.int .i64 (pX (A - n * D) B C D D))) = tt at *
      obtain ⟨qq, hqq⟩ : ∃ y, y = w5.heap.size := ⟨_, rfl⟩
      rw [← hqq]
      obtain ⟨zz, hzz⟩ : ∃ y : Nat, y = 0 := ⟨0, rfl⟩
      clear hzz
      exact MAIN qq zz tt ⟨(by rw [hqq]; exact HXB.out), HRB.out, HT.out⟩
  case h2 =>
    intro qq _ tt hC
    have HX := Lib.hid hC.1; have HB := Lib.hid hC.2.1
    have hT := hC.2.2
    clear hC
    clear K HP5 HC5 HR5 LW PO
    obtain ⟨x0, x1, x2, x3, -⟩ := HX.out.four
    obtain ⟨r0, r1, r2, r3, f0, f1, f2, f3⟩ := HB.out.four
    have lx := HX.out.lt
    have lb := HB.out.lt
    by_cases hE0 : pE (A - n * D) B C D = 0
    · have hb0 : (pE (A - n * D) B C D != 0) = false := by simpa using hE0
      have EZ := Lib.hid hE0
      clear hE0
      go_wp2_with fail
      refine bodyPost_ret (v := .tuple #[.agg #[.int .i64 (pX (A - n * D) B C D (A - n * D)), .int .i64 (pX (A - n * D) B C D B), .int .i64 (pX (A - n * D) B C D C), .int .i64 (pX (A - n * D) B C D D)], .int .i64 (octI (pE (A - n * D) B C D) n), .int .i64 (pE (A - n * D) B C D)])
        (by simp [results, Tryd.results43, go_sem, octI, EZ.out, r0, r1, r2, r3]) rfl ⟨(by first | rfl | (rw [HNN.out]; done) | (rw [HNN.out]; rfl)), ?_⟩
      repeat' (first | (with_reducible exact Below.refl _ _) | (with_reducible assumption) | (with_reducible refine Below.drew ?_) | (with_reducible refine Below.setCell ?_ ?_ _) | (with_reducible refine Below.alloc ?_ ?_ _) | go_size | omega)
    · have hb0 : (pE (A - n * D) B C D != 0) = true := by simpa using hE0
      have hno : okN (A - n * D) B C D = false := by
        cases ho : okN (A - n * D) B C D
        · rfl
        · exfalso; apply hE0; unfold pE; rw [if_pos ho]
      have ZX := Lib.hid (fun v : Int => show pX (A - n * D) B C D v = 0 by unfold pX; rw [hno]; rfl)
      have EZ := Lib.hid hE0
      clear hE0 hno
      go_wp2_with fail
      refine bodyPost_ret (v := .tuple #[.agg #[.int .i64 (pX (A - n * D) B C D (A - n * D)), .int .i64 (pX (A - n * D) B C D B), .int .i64 (pX (A - n * D) B C D C), .int .i64 (pX (A - n * D) B C D D)], .int .i64 (octI (pE (A - n * D) B C D) n), .int .i64 (pE (A - n * D) B C D)])
        (by simp [results, Tryd.results43, go_sem, octI, ZX.out, EZ.out, r0, r1, r2, r3]) rfl ⟨(by first | rfl | (rw [HNN.out]; done) | (rw [HNN.out]; rfl)), ?_⟩
      repeat' (first | (with_reducible exact Below.refl _ _) | (with_reducible assumption) | (with_reducible refine Below.drew ?_) | (with_reducible refine Below.setCell ?_ ?_ _) | (with_reducible refine Below.alloc ?_ ?_ _) | go_size | omega)
end Go.Proofs.YtbagmfnedgjndaaDoor
