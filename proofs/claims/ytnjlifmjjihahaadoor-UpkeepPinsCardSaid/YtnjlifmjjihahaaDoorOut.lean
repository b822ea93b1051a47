/-
  What is known of failed tests: upkeep.outcomeOf, for all lists. Condition: the table of primes holds what its initialiser lays.
-/
import Derived.Test.YtnjlifmjjihahaaDoorSof
import Derived.Test.YtnjlifmjjihahaaDoorSer
import Derived.Deep.CutBlock
namespace Go.Proofs.YtnjlifmjjihahaaDoor
open Go.RowKit
attribute [local go_sem ↓] Go.wp_at_zero Go.wp_at_succ
theorem ogc_size (s : Nat → Nat) (f : Nat) : (ogc s f).size = 89 := by unfold ogc; rw [Array.size_push, sgc_size]
theorem infoOg : (Tryd.prog.info? 138).map (·.size) = some 89 := by kernel_rfl
theorem infoOgs (s : Nat → Nat) (f : Nat) : (Tryd.prog.info? 138).map (·.size) = some (ogc s f).size := by rw [ogc_size]; exact infoOg
theorem zeroOg : Tryd.zeroCells138 = ogc (fun _ => 0) 0 := by rfl
theorem ogc_one (s : Nat → Nat) (f : Nat) : (ogc s f).all (·.oneCell') = true := Array.all_eq_true_iff_forall_mem.2 (fun v hv => by
  unfold ogc at hv
  rcases Array.mem_push.1 hv with h | h
  · exact Array.all_eq_true_iff_forall_mem.1 (sgc_one s) v h
  · rw [h]; rfl)
theorem Box.putOg {w : World} {b : Nat} {s s' : Nat → Nat} {f f' : Nat} {t : TypeId} (h : Box w b (ogc s f) t) : Box (w.setCells b 0 (ogc s' f').toList) b (ogc s' f') t := by
  have h2 := Box.sets (ogc s' f').toList 0 h
  rwa [setL_all (by rw [Array.length_toList, ogc_size, ogc_size]), Array.toArray_toList] at h2
theorem builtOg (s : Nat → Nat) : Tryd.prog.built 138 [(0, .agg (sgc s))] = some (ogc s 0) := by kernel_rfl
theorem wpList_builtOg {ops : Array Oper} {rest : List Oper} {o : Oper} {a : Act} {w : World} {Q : Exit → Act → World → Prop} (hg : o.guard = none) (x : Operand) (ho : o.op = .build 138 #[(0, x)]) (s : Nat → Nat) (hx : a.eval x = .agg (sgc s))
    (h : wpList Tryd.prog ops Q rest (a.put o.dst (.agg (ogc s 0))) w) : wpList Tryd.prog ops Q (o :: rest) a w := by
  have e : Tryd.prog.built 138 ((#[(0, x)] : Array (Nat × Operand)).map fun (i, x) => (i, a.eval x)).toList = some (ogc s 0) := by
    simp only [List.map_toArray, List.map_cons, List.map_nil, hx]
    exact builtOg s
  refine wpList_build hg 138 #[(0, x)] ho (by rw [e]; rfl) ?_
  rw [e]; exact h
theorem ogc_set (s : Nat → Nat) (f f' : Nat) : (ogc s f).setIfInBounds 88 (.int .u64 (f' : Int)) = ogc s f' := by
  unfold ogc
  refine Array.ext_getElem? fun j => ?_
  rw [Array.getElem?_setIfInBounds, Array.getElem?_push, Array.getElem?_push]
  simp only [Array.size_push, sgc_size]
  by_cases h : j = 88
  · subst h; simp
  · rw [if_neg (fun e => h e.symm), if_neg h, if_neg h]
/-- the bits of failed tests -/
def fbE (l : List Int) : Nat := l.foldl (fun a n => a ||| 2 ^ n.toNat) 0
theorem fbE_snoc (l : List Int) (x : Int) : fbE (l ++ [x]) = fbE l ||| 2 ^ x.toNat := by unfold fbE; rw [List.foldl_append]; rfl
theorem fbE_lt {l : List Int} (h : ∀ x ∈ l, x.toNat < 64) : fbE l < 18446744073709551616 := by
  have : ∀ (l : List Int) (a : Nat), (∀ x ∈ l, x.toNat < 64) → a < 18446744073709551616 → l.foldl (fun a n => a ||| 2 ^ n.toNat) a < 18446744073709551616 := fun l => by
    induction l with
    | nil => intro a _ h; exact h
    | cons x l ih => intro a hx h; exact ih _ (fun y hy => hx y (List.mem_cons_of_mem _ hy)) (Nat.or_lt_two_pow (n := 64) h (Nat.pow_lt_pow_right (by omega) (hx x (by simp))))
  exact this l 0 h (by decide)
/-- whether a number is that of one of n tests -/
def isT (n : Nat) (x : Int) : Bool := inR x 0 ((n : Int) - 1)
set_option maxHeartbeats 800000 in
theorem isTest_any (b n cap : Nat) (a : Option Addr) (x : Int) (w : World) (hb : b < w.heap.size) (hn : n ≤ 1000) (hc : w.cell? ⟨b, 0, none⟩ = some (.slice a n cap)) :
    Calls Tryd.prog 117 #[.int .i64 x, .pointer (some ⟨b, 0, none⟩)] w fun e w' => e = .returned (.bool (isT n x)) ∧ w' = w := by
  go_enter Tryd.func117, Tryd.ntmps117
  go_wp2_with (go_at_call 110; refine (between_any _ _ _ _).mono ?_; rintro e w' ⟨rfl, rfl⟩)
  go_ret
  exact ⟨rfl, rfl⟩
/-- the error of tests and failed ones -/
def ouE (l : List Tt) (fl : List Int) : Int := if ctsE l ≠ 0 then ctsE l else seE (isT l.length) fl
def OutR (l : List Tt) (fl : List Int) (w : World) (e : Ending) (w' : World) : Prop :=
  (∃ s f, e = .returned (.tuple #[.agg (ogc s f), .int .i64 (ouE l fl)]) ∧ (ouE l fl = 0 → s = sgN l l.length ∧ f = fbE fl)) ∧ Below w.heap.size w w'
set_option maxRecDepth 100000 in
set_option maxHeartbeats 1600000 in
theorem outcomeOf_any (l : List Tt) (a : Option Addr) (cap : Nat) (fl : List Int) (af : Option Addr) (capf : Nat) (w : World) (hlen : l.length ≤ 1000) (hfl : fl.length ≤ 1000) (hp : PrimesT w) (hs : SlT w a l) (hf : SetAt w af fl) :
    Calls Tryd.prog 100 #[.slice a l.length cap, .slice af fl.length capf] w (OutR l fl w) := by
  have HS := Lib.hid hs; have HP := Lib.hid hp; have HF := Lib.hid hf; clear hs hp hf
  have CS := Lib.hid (fun v h1 h2 => sigsOf_any l a cap v hlen h1 h2)
  unfold SofR at CS
  have HE := Lib.hid (show ∃ x, ctsE l = x from ⟨_, rfl⟩)
  obtain ⟨e0, he0⟩ := HE.out
  have HG := Lib.hid (show ∃ s, (if ctsE l = 0 then sgN l l.length else fun _ => 0) = s from ⟨_, rfl⟩)
  obtain ⟨s0, hs0⟩ := HG.out
  rw [hs0, he0] at CS
  have H0 := Lib.hid he0; have HS0 := Lib.hid hs0; clear he0 hs0 HE HG
  have B1 : Below w.heap.size w ((w.alloc (.cells #[.slice a l.length cap] 72)).alloc (.cells Tryd.zeroCells138 138)) := by (repeat' (first | (with_reducible exact Below.refl _ _) | (with_reducible assumption) | (with_reducible refine Below.drew ?_) | (with_reducible refine below_drewN ?_ _) | (with_reducible refine Below.setCell ?_ ?_ _) | (with_reducible refine Below.alloc ?_ ?_ _) | go_size | omega))
  have L1 := Lib.hid ((Box.new w #[.slice a l.length cap] 72 (n := w.heap.size) rfl).alloc (.cells Tryd.zeroCells138 138))
  have R1 := Lib.hid (Box.new (w.alloc (.cells #[.slice a l.length cap] 72)) Tryd.zeroCells138 138 (n := w.heap.size + 1) (by simp))
  go_enter Tryd.func100, Tryd.ntmps100
  go_wp2_with fail
  refine (CS.out _ (HP.out.keep B1) (HS.out.keep B1)).mono ?_
  rintro e w2 ⟨rfl, h2⟩
  rw [zeroOg] at B1 L1 R1 h2
  have B2 : Below w.heap.size w w2 := below_via B1 h2
  have R2 := Lib.hid (R1.out.keep h2); have L2 := Lib.hid (L1.out.keep h2)
  clear h2 CS L1 R1 B1
  have Z2 := Lib.hid (Box.new w2 Tryd.zeroCells127 127 (n := w2.heap.size) rfl)
  rw [zeroSg] at Z2
  dsimp only
  iterate 14 (try go_step)
  refine wp_store_mid 127 _ _ rfl w2.heap.size 0 (sgc s0) rfl rfl (by rw [zeroSg, sgc_size, ← sgc_size (fun _ => 0)]; exact Z2.out.there) (infoSgs s0) (sgc_one s0) ?_
  rw [zeroSg]
  have Z3 := Lib.hid (Z2.out.putSg (s' := s0))
  have R3 := Lib.hid (Box.otherSets (b := w2.heap.size) (by have := R2.out.lt; omega) (sgc s0).toList 0 (R2.out.alloc (.cells (sgc fun _ => 0) 127)))
  have L3 := Lib.hid (Box.otherSets (b := w2.heap.size) (by have := R2.out.lt; omega) (sgc s0).toList 0 (L2.out.alloc (.cells (sgc fun _ => 0) 127)))
  have z2 := B2.size
  have B3 : Below w.heap.size w ((w2.alloc (.cells (sgc fun _ => 0) 127)).setCells w2.heap.size 0 (sgc s0).toList) := Below.sets z2 _ _ (by (repeat' (first | (with_reducible exact Below.refl _ _) | (with_reducible assumption) | (with_reducible refine Below.drew ?_) | (with_reducible refine below_drewN ?_ _) | (with_reducible refine Below.setCell ?_ ?_ _) | (with_reducible refine Below.alloc ?_ ?_ _) | go_size | omega)))
  clear Z2 R2 L2 B2
  generalize hsb : w2.heap.size = sb at *
  generalize ((w2.alloc (.cells (sgc fun _ => 0) 127)).setCells sb 0 (sgc s0).toList) = u at *
  clear hsb
  by_cases hz : e0 = 0
  · subst hz
    have CE := Lib.hid (fun v (hv : Below w.heap.size w v) (hL : Box v w.heap.size #[.slice a l.length cap] 72) => setError_any (isT l.length) 117 #[.pointer (some ⟨w.heap.size, 0, none⟩)] fl af capf v hfl (HF.out.keep hv)
      (fun n q hq => (isTest_any w.heap.size l.length cap a n q (hL.keep hq).lt hlen ((hL.keep hq).cell 0)).mono fun e w' ⟨h1, h2⟩ => ⟨h1, by rw [h2]; exact Below.refl _ _⟩) (enters_of Tryd.func117 (by kernel_rfl) rfl))
    have HV := Lib.hid (show ∃ x, seE (isT l.length) fl = x from ⟨_, rfl⟩)
    obtain ⟨e1, he1⟩ := HV.out
    rw [he1] at CE
    have HO := Lib.hid (show ouE l fl = e1 by unfold ouE; rw [if_neg (by rw [H0.out]; simp), he1])
    have HE1 := Lib.hid he1; clear he1 HV
    go_wp2_with fail
    refine (CE.out _ B3 L3.out).mono ?_
    rintro e w4 ⟨rfl, h4⟩
    have B4 := below_via B3 h4
    have Z4 := Lib.hid (Z3.out.keep h4); have R4 := Lib.hid (R3.out.keep h4)
    have z4 := h4.size
    clear h4 CE Z3 R3 L3 B3
    by_cases hz : e1 = 0
    · subst hz
      have lz := Z4.out.lt
      have N4 := Lib.hid (Box.new w4 Tryd.zeroCells138 138 (n := w4.heap.size) rfl)
      rw [zeroOg] at N4
      go_upto_region 8 with fail
      go_step
      refine wpList_load_row rfl 127 (.tmp 6) rfl sb rfl _ (sgc s0) (0, 0) _ Z4.out Tryd.underlying127 rfl (infoSgs s0) ?_
      refine wpList_builtOg rfl (.tmp 30) rfl s0 rfl ?_
      iterate 3 (try go_step)
      refine wpList_store_mid rfl 138 (.tmp 10) (.tmp 31) rfl w4.heap.size 0 (ogc s0 0) rfl rfl (by rw [zeroOg, ogc_size, ← ogc_size (fun _ => 0) 0]; exact N4.out.there) (infoOgs s0 0) (ogc_one s0 0) ?_
      rw [zeroOg]
      have N5 := Lib.hid (N4.out.putOg (s' := s0) (f' := 0))
      have R5 := Lib.hid (Box.otherSets (b := w4.heap.size) (by have := R4.out.lt; omega) (ogc s0 0).toList 0 (R4.out.alloc (.cells (ogc (fun _ => 0) 0) 138)))
      have zw := B4.size
      have B5 : Below w.heap.size w ((w4.alloc (.cells (ogc (fun _ => 0) 0) 138)).setCells w4.heap.size 0 (ogc s0 0).toList) := Below.sets zw _ _ (by (repeat' (first | (with_reducible exact Below.refl _ _) | (with_reducible assumption) | (with_reducible refine Below.drew ?_) | (with_reducible refine below_drewN ?_ _) | (with_reducible refine Below.setCell ?_ ?_ _) | (with_reducible refine Below.alloc ?_ ?_ _) | go_size | omega)))
      have lr := R4.out.lt
      clear N4 R4 B4 Z4 lz
      generalize hob : w4.heap.size = ob at *
      generalize ((w4.alloc (.cells (ogc (fun _ => 0) 0) 138)).setCells ob 0 (ogc s0 0).toList) = v at *
      clear hob
      have HALL : Hid (fl.all (isT l.length) = true ∧ asE fl = 0) := Lib.hid (by
        have h := HE1.out
        unfold seE at h
        by_cases hA : fl.all (isT l.length) = true
        · rw [if_pos hA] at h; exact ⟨hA, h⟩
        · rw [if_neg hA] at h; omega)
      obtain ⟨h60, -⟩ := ctsE_ok H0.out
      have HI : Hid (∀ x ∈ fl, 0 ≤ x ∧ x.toNat < 64) := Lib.hid (fun x hx => by
        have h := List.all_eq_true.1 HALL.out.1 x hx
        unfold isT inR at h
        have h := of_decide_eq_true h
        omega)
      go_wp2_with fail
      go_loopw [34] (fun i wr => ∃ k : Nat, k ≤ fl.length ∧ i = .int .i64 k ∧ Box wr (w.heap.size + 1) (ogc (fun _ => 0) 0) 138 ∧ Box wr ob (ogc s0 (fbE (fl.take k))) 138 ∧ Below w.heap.size w wr) (fun i _ => fl.length - (intOf i).toNat)
      case atStart => exact ⟨0, by omega, rfl, R5.out, N5.out, B5⟩
      case round =>
        obtain ⟨k, hk, rfl, RR, RS, RB⟩ := hrel
        by_cases hlt : k < fl.length
        · obtain ⟨b, o, rfl, hb, hck⟩ := (HF.out.keep RB).at hlt
          have HT := Lib.hid (show ∃ x : Nat, fl[k] = x ∧ x < 64 from ⟨fl[k].toNat, by have := HI.out _ (List.getElem_mem hlt); omega, (HI.out _ (List.getElem_mem hlt)).2⟩)
          obtain ⟨x, hx, hx64⟩ := HT.out
          rw [hx] at hck
          have HTK := Lib.hid (show fbE (fl.take (k + 1)) = fbE (fl.take k) ||| 2 ^ x by rw [List.take_succ_eq_append_getElem hlt, fbE_snoc, hx]; rfl)
          clear hx HT
          have hf1 : fbE (fl.take k) < 18446744073709551616 := fbE_lt (fun y hy => (HI.out y (List.mem_of_mem_take hy)).2)
          have hp2 : (2 : Nat) ^ x < 18446744073709551616 := by
            have : (2 : Nat) ^ x < 2 ^ 64 := Nat.pow_lt_pow_right (by omega) hx64
            exact this
          have CS := Lib.hid (fun v => single_any x v hx64)
          have N1 := Lib.hid (u64_or_nat _ _ hf1 hp2)
          obtain ⟨P2, hP2⟩ : ∃ P, (2 : Nat) ^ x = P := ⟨_, rfl⟩
          rw [hP2] at CS N1 HTK
          obtain ⟨f0, hf0⟩ : ∃ f, fbE (fl.take k) = f := ⟨_, rfl⟩
          rw [hf0] at N1 HTK RS
          clear hp2 hP2 hf1 hf0
          have q0 : wr.cell? ⟨ob, 88, none⟩ = some (.int .u64 (f0 : Int)) := by rw [RS.cell 88]; exact ogc_f s0 f0
          have fr := RS.free 88
          have ls := RS.lt
          have zr := RB.size
          have RR := Lib.hid RR; have RS := Lib.hid RS
          go_wp2_with fail
          go_still_tail 6, (by kernel_rfl)
          repeat still_step
          still_call (CS.out _)
          repeat still_step
          refine wpStill_nil ?_
          go_wp2_with fail
          have RR1 := (RR.out.other ⟨ob, 88, none⟩ (.int .u64 (bits .or .u64 (f0 : Int) (P2 : Int))) (by simp; omega)).drew
          have RS1 : Box ((wr.setCell ⟨ob, 88, none⟩ (.int .u64 (bits .or .u64 (f0 : Int) (P2 : Int)))).drew) ob (ogc s0 (f0 ||| P2)) 138 := by
            have h := (RS.out.set 88 (.int .u64 (bits .or .u64 (f0 : Int) (P2 : Int)))).drew
            have e : (ogc s0 f0).setIfInBounds 88 (.int .u64 (bits .or .u64 (f0 : Int) (P2 : Int))) = ogc s0 (f0 ||| P2) := by rw [N1.out]; exact ogc_set _ _ _
            rw [e] at h
            exact h
          have B1 : Below w.heap.size w ((wr.setCell ⟨ob, 88, none⟩ (.int .u64 (bits .or .u64 (f0 : Int) (P2 : Int)))).drew) := by (repeat' (first | (with_reducible exact Below.refl _ _) | (with_reducible assumption) | (with_reducible refine Below.drew ?_) | (with_reducible refine below_drewN ?_ _) | (with_reducible refine Below.setCell ?_ ?_ _) | (with_reducible refine Below.alloc ?_ ?_ _) | go_size | omega))
          go_roundw
          case rel => exact ⟨k + 1, by omega, by go_num, RR1, by rw [HTK.out]; exact RS1, B1⟩
          case measure => simp [intOf]; omega
        · obtain rfl : k = fl.length := by omega
          obtain ⟨fF, hfF⟩ : ∃ f, fbE fl = f := ⟨_, rfl⟩
          rw [List.take_length, hfF] at RS
          have HFF := Lib.hid hfF; clear hfF
          have RR := Lib.hid RR; have RS := Lib.hid RS
          have BB := Lib.hid RB
          go_upto_region 14 with fail
          go_step
          refine wpList_load_row rfl 138 (.tmp 10) rfl ob rfl _ (ogc s0 fF) (0, 0) _ RS.out Tryd.underlying138 rfl (infoOgs s0 fF) ?_
          refine wpList_store_mid rfl 138 (.tmp 4) (.tmp 45) rfl (w.heap.size + 1) 0 (ogc s0 fF) rfl rfl (by rw [ogc_size, ← ogc_size (fun _ => 0) 0]; exact RR.out.there) (infoOgs s0 fF) (ogc_one s0 fF) ?_
          have RF := RR.out.putOg (s' := s0) (f' := fF)
          have BF : Below w.heap.size w (wr.setCells (w.heap.size + 1) 0 (ogc s0 fF).toList) := Below.sets (by omega) _ _ BB.out
          generalize (wr.setCells (w.heap.size + 1) 0 (ogc s0 fF).toList) = wf at *
          go_wp2_with fail
          refine bodyPost_ret (v := .tuple #[.agg (ogc s0 fF), .int .i64 0]) (results_row2 Tryd.results100 _ wf (w.heap.size + 1) _ rfl (run_loadVar_row wf _ _ 138 _ _ _ RF Tryd.underlying138 rfl (infoOgs _ _))) rfl ⟨⟨_, _, by rw [HO.out], fun h => ⟨by rw [← HS0.out, if_pos H0.out], HFF.out.symm⟩⟩, BF⟩
    · have hz' : (e1 != 0) = true := by simpa using hz
      have HZ := Lib.hid hz; clear hz
      have RB := Lib.hid R4.out
      have BB := Lib.hid B4
      go_upto_region 7 with fail
      iterate 7 (try go_step)
      refine (wpList_store_mid rfl 138 (.tmp 4) (.tmp 28) rfl (w.heap.size + 1) 0 _ rfl rfl (by rw [zeroOg]; exact RB.out.there) (by rw [zeroOg]; exact infoOgs _ _) (by rw [zeroOg]; exact ogc_one _ _) ?_)
      rw [zeroOg]
      have RF := R4.out.putOg (s' := fun _ => 0) (f' := 0)
      have BF : Below w.heap.size w (w4.setCells (w.heap.size + 1) 0 (ogc (fun _ => 0) 0).toList) := Below.sets (by omega) _ _ BB.out
      generalize (w4.setCells (w.heap.size + 1) 0 (ogc (fun _ => 0) 0).toList) = wf at *
      go_wp2_with fail
      refine bodyPost_ret (v := .tuple #[.agg (ogc (fun _ => 0) 0), .int .i64 e1]) (results_row2 Tryd.results100 _ wf (w.heap.size + 1) _ rfl (run_loadVar_row wf _ _ 138 _ _ _ RF Tryd.underlying138 rfl (infoOgs _ _))) rfl ⟨⟨_, _, by rw [HO.out], fun h => by rw [HO.out] at h; exact absurd h HZ.out⟩, BF⟩
  · have hz' : (e0 != 0) = true := by simpa using hz
    have HO := Lib.hid (show ouE l fl = e0 by unfold ouE; rw [H0.out, if_pos hz])
    have HZ := Lib.hid hz; clear hz
    have RB := Lib.hid R3.out
    have BB := Lib.hid B3
    go_upto_region 3 with fail
    iterate 7 (try go_step)
    refine (wpList_store_mid rfl 138 (.tmp 4) (.tmp 20) rfl (w.heap.size + 1) 0 _ rfl rfl (by rw [zeroOg]; exact RB.out.there) (by rw [zeroOg]; exact infoOgs _ _) (by rw [zeroOg]; exact ogc_one _ _) ?_)
    rw [zeroOg]
    have RF := R3.out.putOg (s' := fun _ => 0) (f' := 0)
    have BF : Below w.heap.size w (u.setCells (w.heap.size + 1) 0 (ogc (fun _ => 0) 0).toList) := Below.sets (by omega) _ _ BB.out
    generalize (u.setCells (w.heap.size + 1) 0 (ogc (fun _ => 0) 0).toList) = wf at *
    go_wp2_with fail
    refine bodyPost_ret (v := .tuple #[.agg (ogc (fun _ => 0) 0), .int .i64 e0]) (results_row2 Tryd.results100 _ wf (w.heap.size + 1) _ rfl (run_loadVar_row wf _ _ 138 _ _ _ RF Tryd.underlying138 rfl (infoOgs _ _))) rfl ⟨⟨_, _, by rw [HO.out], fun h => by rw [HO.out] at h; exact absurd h HZ.out⟩, BF⟩
end Go.Proofs.YtnjlifmjjihahaaDoor
