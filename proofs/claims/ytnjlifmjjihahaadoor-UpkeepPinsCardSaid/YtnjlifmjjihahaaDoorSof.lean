/-
  Signatures of all notes: upkeep.signaturesOf. Condition: the table of primes holds what its initialiser lays.
-/
import Derived.Test.YtnjlifmjjihahaaDoorChk
import Derived.Test.YtnjlifmjjihahaaDoorNot
import Derived.Laws.BitsAllLaws
namespace Go.Proofs.YtnjlifmjjihahaaDoor
open Go.RowKit
attribute [local go_sem ↓] Go.wp_at_zero Go.wp_at_succ
theorem Tt.ok {t : Tt} (h : t.e = 0) : 0 ≤ t.lo ∧ t.lo < t.hi ∧ t.hi ≤ 87 ∧ (1 ≤ t.p ∧ t.p ≤ 16) ∧ 1 ≤ t.q ∧ t.q ≤ 16 := by
  unfold Tt.e ctE at h
  by_cases he : erV t.lo t.hi t.p t.q = 0
  · rw [if_pos he] at h
    have := erV_zero he
    by_cases hh : t.hi ≤ t.lo
    · rw [if_pos hh] at h; omega
    · omega
  · rw [if_neg he] at h; exact absurd h he
theorem ctsF_ok : ∀ {l seen : List Tt}, ctsF seen l = 0 → ∀ t ∈ l, t.e = 0 := by
  intro l
  induction l with
  | nil => intro seen _ t ht; simp at ht
  | cons x l ih =>
    intro seen h t ht
    unfold ctsF at h
    by_cases hx : x.e = 0
    · rw [if_neg (by simpa using hx)] at h
      by_cases hs : x ∈ seen
      · rw [if_pos hs] at h; omega
      · rw [if_neg hs] at h
        rcases List.mem_cons.1 ht with rfl | ht
        · exact hx
        · exact ih h t ht
    · rw [if_pos hx] at h; exact absurd h hx
theorem ctsE_ok {l : List Tt} (h : ctsE l = 0) : l.length ≤ 60 ∧ ∀ t ∈ l, t.e = 0 := by
  unfold ctsE at h
  by_cases hl : l.length > 60
  · rw [if_pos hl] at h; omega
  · rw [if_neg hl] at h; exact ⟨by omega, ctsF_ok h⟩
def upB (s : Nat → Nat) (n v : Nat) : Nat → Nat := fun j => if j = n then s j ||| v else s j
/-- the signatures by the first k tests -/
def sgN (l : List Tt) : Nat → Nat → Nat
  | 0 => fun _ => 0
  | k + 1 => match l[k]? with
    | some t => upB (upB (sgN l k) t.lo.toNat (2 ^ k)) t.hi.toNat (2 ^ k)
    | none => sgN l k
theorem sgN_lt (l : List Tt) : ∀ k, ∀ n, sgN l k n < 2 ^ k := by
  intro k
  induction k with
  | zero => intro n; simp [sgN]
  | succ k ih =>
    intro n
    have h1 : ∀ m, sgN l k m < 2 ^ (k + 1) := fun m => Nat.lt_of_lt_of_le (ih m) (Nat.pow_le_pow_right (by omega) (by omega))
    have h2 : 2 ^ k < 2 ^ (k + 1) := Nat.pow_lt_pow_right (by omega) (by omega)
    have hcase : (∃ t, l[k]? = some t) ∨ l[k]? = none := by cases l[k]? <;> simp
    rcases hcase with ⟨t, ht⟩ | ht
    · simp only [sgN, ht]
      unfold upB
      have h3 : ∀ m t, (if m = t then sgN l k m ||| 2 ^ k else sgN l k m) < 2 ^ (k + 1) := fun m t => by split; exact Nat.or_lt_two_pow (h1 m) h2; exact h1 m
      split
      · exact Nat.or_lt_two_pow (h3 _ _) h2
      · exact h3 _ _
    · simp only [sgN, ht]; exact h1 n
theorem sgc_up (s : Nat → Nat) (n v : Nat) (hn : n < 88) : (sgc s).setIfInBounds n (.int .u64 ((s n ||| v : Nat) : Int)) = sgc (upB s n v) := by
  refine Array.ext (by simp [sgc]) fun i h1 h2 => ?_
  have hi : i < 88 := by simpa [sgc] using h2
  rw [Array.getElem_setIfInBounds (by simpa [sgc] using hi)]
  simp only [sgc, upB, List.getElem_toArray, List.getElem_map, List.getElem_range]
  by_cases h : n = i
  · subst h; simp
  · rw [if_neg h, if_neg (fun e => h e.symm)]
theorem Box.there {w : World} {b : Nat} {cs : Array Value} {t : TypeId} (h : Box w b cs t) : w.there b 0 cs.size := fun j hj => by
  rw [Nat.zero_add]
  exact ⟨by rw [h.cell j]; simp [hj], h.free j⟩
def setL (cs : Array Value) : Nat → List Value → Array Value
  | _, [] => cs
  | o, v :: r => setL (cs.setIfInBounds o v) (o + 1) r
theorem setL_size : ∀ (vs : List Value) (cs : Array Value) (o : Nat), (setL cs o vs).size = cs.size
  | [], _, _ => rfl
  | v :: r, cs, o => by rw [setL, setL_size r]; simp
theorem setL_at : ∀ (vs : List Value) (cs : Array Value) (o j : Nat), j < cs.size → (setL cs o vs)[j]? = if o ≤ j then (if h : j - o < vs.length then some vs[j - o] else cs[j]?) else cs[j]?
  | [], cs, o, j, _ => by simp [setL]
  | v :: r, cs, o, j, hj => by
    rw [setL, setL_at r _ _ j (by simpa using hj)]
    by_cases h1 : o + 1 ≤ j
    · rw [if_pos h1, if_pos (by omega)]
      by_cases h2 : j - (o + 1) < r.length
      · rw [dif_pos h2, dif_pos (by simp; omega)]
        congr 1
        have e : j - o = (j - (o + 1)) + 1 := by omega
        simp [e]
      · rw [dif_neg h2, dif_neg (by simp; omega)]
        rw [Array.getElem?_setIfInBounds, if_neg (by omega)]
    · rw [if_neg h1]
      by_cases h2 : o = j
      · subst h2
        rw [if_pos (by omega), dif_pos (by simp)]
        rw [Array.getElem?_setIfInBounds, if_pos rfl, if_pos hj]
        simp
      · rw [if_neg (by omega), Array.getElem?_setIfInBounds, if_neg h2]
theorem setL_all {vs : List Value} {cs : Array Value} (h : vs.length = cs.size) : setL cs 0 vs = vs.toArray := by
  refine Array.ext_getElem? fun j => ?_
  by_cases hj : j < cs.size
  · rw [setL_at vs cs 0 j hj, if_pos (by omega), dif_pos (by omega)]
    simp [show j < vs.length by omega]
  · rw [Array.getElem?_eq_none (by rw [setL_size]; omega), Array.getElem?_eq_none (by simp; omega)]
theorem Box.sets {b : Nat} {t : TypeId} : ∀ (vs : List Value) (o : Nat) {w : World} {cs : Array Value}, Box w b cs t → Box (w.setCells b o vs) b (setL cs o vs) t
  | [], _, _, _, h => h
  | v :: r, o, w, cs, h => by rw [World.setCells, setL]; exact Box.sets r (o + 1) (h.set o v)
theorem Box.otherSets {b b' : Nat} {t : TypeId} {cs : Array Value} (hne : b' ≠ b) : ∀ (vs : List Value) (o : Nat) {w : World}, Box w b' cs t → Box (w.setCells b o vs) b' cs t
  | [], _, _, h => h
  | v :: r, o, w, h => by rw [World.setCells]; exact Box.otherSets hne r (o + 1) (h.other _ _ hne)
theorem Below.sets {B b : Nat} {a : World} (hb : B ≤ b) : ∀ (vs : List Value) (o : Nat) {w : World}, Below B a w → Below B a (w.setCells b o vs)
  | [], _, _, h => h
  | v :: r, o, w, h => by rw [World.setCells]; exact Below.sets hb r (o + 1) (h.setCell hb _)
theorem sgc_one (s : Nat → Nat) : (sgc s).all (·.oneCell') = true := all_oneCell_toArray (fun v hv => by
  obtain ⟨j, _, rfl⟩ := List.mem_map.1 hv; rfl)
theorem zeroSg : Tryd.zeroCells127 = sgc (fun _ => 0) := by rfl
/-- a whole row of signatures is stored -/
theorem Box.putSg {w : World} {b : Nat} {s s' : Nat → Nat} {t : TypeId} (h : Box w b (sgc s) t) : Box (w.setCells b 0 (sgc s').toList) b (sgc s') t := by
  have h2 := Box.sets (sgc s').toList 0 h
  rwa [setL_all (by rw [Array.length_toList, sgc_size, sgc_size]), Array.toArray_toList] at h2
theorem results_row2 {fn : Func} {p q : Tmp} {ty : TypeId} (h : fn.results = #[.cell p ty, .tmp q]) (tmps : Array Value) (w : World) (g : Nat) (cs : Array Value)
    (hp : tmps.getD p undef = .pointer (some ⟨g, 0, none⟩)) (hr : (loadVar ty ⟨g, 0, none⟩).run Tryd.prog w = .ok (.agg cs) w) :
    (results fn tmps).run Tryd.prog w = .ok (.tuple #[.agg cs, tmps.getD q undef]) w := by
  have hp' : tmps[p]?.getD undef = .pointer (some ⟨g, 0, none⟩) := by simpa using hp
  simp [results, h, hp', asAddr, hr]
def SofR (l : List Tt) (w : World) (e : Ending) (w' : World) : Prop :=
  e = .returned (.tuple #[.agg (sgc (if ctsE l = 0 then sgN l l.length else fun _ => 0)), .int .i64 (ctsE l)]) ∧ Below w.heap.size w w'
set_option maxRecDepth 100000 in
set_option maxHeartbeats 1600000 in
theorem sigsOf_any (l : List Tt) (a : Option Addr) (cap : Nat) (w : World) (hlen : l.length ≤ 1000) (hp : PrimesT w) (hs : SlT w a l) :
    Calls Tryd.prog 91 #[.slice a l.length cap] w (SofR l w) := by
  have HS := Lib.hid hs; have HP := Lib.hid hp; clear hs hp
  have HE := Lib.hid (show ∃ x, ctsE l = x from ⟨_, rfl⟩)
  obtain ⟨e0, he0⟩ := HE.out
  have CT := Lib.hid (fun v h1 h2 => checkTests_any l a cap v hlen h1 h2)
  rw [he0] at CT
  have H0 := Lib.hid he0; clear he0 HE
  have B1 : Below w.heap.size w (w.alloc (.cells Tryd.zeroCells127 127)) := by (repeat' (first | (with_reducible exact Below.refl _ _) | (with_reducible assumption) | (with_reducible refine Below.drew ?_) | (with_reducible refine below_drewN ?_ _) | (with_reducible refine Below.setCell ?_ ?_ _) | (with_reducible refine Below.alloc ?_ ?_ _) | go_size | omega))
  have R1 := Lib.hid (Box.new w Tryd.zeroCells127 127 (n := w.heap.size) rfl)
  rw [zeroSg] at R1
  by_cases hz : e0 = 0
  · subst hz
    obtain ⟨h60, hok⟩ := ctsE_ok H0.out
    have HO := Lib.hid hok; clear hok
    go_enter Tryd.func91, Tryd.ntmps91
    go_wp2_with fail
    refine (CT.out _ (HP.out.keep (B1.mono (Nat.le_refl _))) (HS.out.keep B1)).mono ?_
    rintro e w2 ⟨rfl, h2⟩
    have B2 : Below w.heap.size w w2 := below_via B1 h2
    have R2 := Lib.hid (R1.out.keep (by rw [← zeroSg]; exact h2))
    have S2 := Lib.hid (Box.new w2 Tryd.zeroCells127 127 (n := w2.heap.size) rfl)
    rw [zeroSg] at S2
    clear h2 CT HP R1 B1
    go_wp2_with fail
    rw [zeroSg]
    have l2 := R2.out.lt
    have R3 := Lib.hid (R2.out.alloc (.cells (sgc fun _ => 0) 127))
    have B3 : Below w.heap.size w (w2.alloc (.cells (sgc fun _ => 0) 127)) := by (repeat' (first | (with_reducible exact Below.refl _ _) | (with_reducible assumption) | (with_reducible refine Below.drew ?_) | (with_reducible refine below_drewN ?_ _) | (with_reducible refine Below.setCell ?_ ?_ _) | (with_reducible refine Below.alloc ?_ ?_ _) | go_size | omega))
    generalize hsb : w2.heap.size = sb at *
    generalize (w2.alloc (.cells (sgc fun _ => 0) 127)) = u at *
    clear hsb R2 B2
    go_loopw [16] (fun i wr => ∃ k : Nat, k ≤ l.length ∧ i = .int .i64 k ∧ Box wr w.heap.size (sgc fun _ => 0) 127 ∧ Box wr sb (sgc (sgN l k)) 127 ∧ Below w.heap.size w wr) (fun i _ => l.length - (intOf i).toNat)
    case atStart => exact ⟨0, by omega, rfl, R3.out, S2.out, B3⟩
    case round =>
      obtain ⟨k, hk, rfl, RR, RS, RB⟩ := hrel
      by_cases hlt : k < l.length
      · have HT := Lib.hid (show ∃ x y : Nat, ∃ p q : Int, l[k] = ⟨x, y, p, q⟩ ∧ x < y ∧ y < 88 from by
          have := Tt.ok (HO.out l[k] (List.getElem_mem hlt))
          exact ⟨l[k].lo.toNat, l[k].hi.toNat, l[k].p, l[k].q, by cases hh : l[k]; rw [hh] at this; simp only at this; simp; omega, by omega, by omega⟩)
        obtain ⟨x, y, p, q, ht, hxy, hy⟩ := HT.out
        obtain ⟨b, o, rfl, hb, c0, c1, c2, c3⟩ := (HS.out.keep RB).at hlt
        rw [ht] at c0 c1 c2 c3
        have HN := Lib.hid (show sgN l (k + 1) = upB (upB (sgN l k) x (2 ^ k)) y (2 ^ k) by simp [sgN, List.getElem?_eq_getElem hlt, ht])
        clear HT
        have HTT := Lib.hid ht; clear ht
        have hx : x < 88 := by omega
        have hxi : (x : Int) < 88 := by omega
        have hyi : (y : Int) < 88 := by omega
        have hk64 : k < 64 := by omega
        have lr := RR.lt; have ls := RS.lt
        have hp2 : (2 : Nat) ^ k < 18446744073709551616 := by
          have : (2 : Nat) ^ k < 2 ^ 64 := Nat.pow_lt_pow_right (by omega) hk64
          exact this
        have hs1 : ∀ n, sgN l k n < 18446744073709551616 := fun n => Nat.lt_of_lt_of_le (sgN_lt l k n) (Nat.le_of_lt hp2)
        have hs2 : ∀ n, upB (sgN l k) x (2 ^ k) n < 18446744073709551616 := fun n => by
          unfold upB; split
          · exact Nat.or_lt_two_pow (n := 64) (hs1 n) hp2
          · exact hs1 n
        have N1 := Lib.hid (u64_or_nat _ _ (hs1 x) hp2)
        have N2 := Lib.hid (u64_or_nat _ _ (hs2 y) hp2)
        have CS := Lib.hid (fun v => single_any k v hk64)
        clear hs1 hs2
        obtain ⟨P2, hP2⟩ : ∃ P, (2 : Nat) ^ k = P := ⟨_, rfl⟩
        rw [hP2] at CS N1 N2 HN
        clear hp2 hP2
        have zr := RB.size
        have RR := Lib.hid RR; have RS := Lib.hid RS
        go_wp2_with fail
        have D1 := Lib.hid (Box.new wr #[.int .i64 (x : Int), .int .i64 (y : Int), .int .i64 p, .int .i64 q] 134 (n := wr.heap.size) rfl)
        have RR1 := Lib.hid (RR.out.alloc (.cells #[.int .i64 (x : Int), .int .i64 (y : Int), .int .i64 p, .int .i64 q] 134))
        have RS1 := Lib.hid (RS.out.alloc (.cells #[.int .i64 (x : Int), .int .i64 (y : Int), .int .i64 p, .int .i64 q] 134))
        have B1 : Below w.heap.size w (wr.alloc (.cells #[.int .i64 (x : Int), .int .i64 (y : Int), .int .i64 p, .int .i64 q] 134)) := by (repeat' (first | (with_reducible exact Below.refl _ _) | (with_reducible assumption) | (with_reducible refine Below.drew ?_) | (with_reducible refine below_drewN ?_ _) | (with_reducible refine Below.setCell ?_ ?_ _) | (with_reducible refine Below.alloc ?_ ?_ _) | go_size | omega))
        generalize hwb : wr.heap.size = tb at *
        generalize (wr.alloc (.cells #[.int .i64 (x : Int), .int .i64 (y : Int), .int .i64 p, .int .i64 q] 134)) = v at *
        clear c0 c1 c2 c3 hb hwb lr RR RS RB
        have d0 := D1.out.cell 0; have d1 := D1.out.cell 1
        have ld := D1.out.lt; have ls1 := RS1.out.lt
        simp at d0 d1
        have q0 : v.cell? ⟨sb, x, none⟩ = some (.int .u64 (sgN l k x : Int)) := by rw [RS1.out.cell x]; simp [sgc, hx]
        have f0 := RS1.out.free x
        go_still_tail 8, (by kernel_rfl)
        repeat still_step
        still_call (CS.out _)
        repeat still_step
        refine wpStill_nil ?_
        go_wp2_with fail
        have RR2 := Lib.hid (RR1.out.other ⟨sb, x, none⟩ (.int .u64 (bits .or .u64 ((sgN l k) x : Int) (P2 : Int))) (by simp; omega)).drew
        have D2 := Lib.hid (D1.out.other ⟨sb, x, none⟩ (.int .u64 (bits .or .u64 ((sgN l k) x : Int) (P2 : Int))) (by simp; omega)).drew
        have RS2 : Hid (Box ((v.setCell ⟨sb, x, none⟩ (.int .u64 (bits .or .u64 ((sgN l k) x : Int) (P2 : Int)))).drew) sb (sgc (upB (sgN l k) x P2)) 127) := Lib.hid (by
          have h := (RS1.out.set x (.int .u64 (bits .or .u64 ((sgN l k) x : Int) (P2 : Int)))).drew
          have e : (sgc (sgN l k)).setIfInBounds x (.int .u64 (bits .or .u64 ((sgN l k) x : Int) (P2 : Int))) = sgc (upB (sgN l k) x P2) := by rw [N1.out]; exact sgc_up _ _ _ (by omega)
          rw [e] at h
          exact h)
        have B2 : Below w.heap.size w ((v.setCell ⟨sb, x, none⟩ (.int .u64 (bits .or .u64 ((sgN l k) x : Int) (P2 : Int)))).drew) := by (repeat' (first | (with_reducible exact Below.refl _ _) | (with_reducible assumption) | (with_reducible refine Below.drew ?_) | (with_reducible refine below_drewN ?_ _) | (with_reducible refine Below.setCell ?_ ?_ _) | (with_reducible refine Below.alloc ?_ ?_ _) | go_size | omega))
        generalize ((v.setCell ⟨sb, x, none⟩ (.int .u64 (bits .or .u64 ((sgN l k) x : Int) (P2 : Int)))).drew) = v2 at *
        clear d0 d1 ld ls1 q0 f0 D1 RR1 RS1 B1 N1
        have d1 := D2.out.cell 1
        have ld := D2.out.lt; have ls1 := RS2.out.lt
        simp at d1
        have q0 : v2.cell? ⟨sb, y, none⟩ = some (.int .u64 (upB (sgN l k) x P2 y : Int)) := by rw [RS2.out.cell y]; simp [sgc, hy]
        have f0 := RS2.out.free y
        go_still_tail 8, (by kernel_rfl)
        repeat still_step
        still_call (CS.out _)
        repeat still_step
        refine wpStill_nil ?_
        go_wp2_with fail
        have RR3 := Lib.hid (RR2.out.other ⟨sb, y, none⟩ (.int .u64 (bits .or .u64 ((upB (sgN l k) x P2) y : Int) (P2 : Int))) (by simp; omega)).drew
        have D3 := Lib.hid (D2.out.other ⟨sb, y, none⟩ (.int .u64 (bits .or .u64 ((upB (sgN l k) x P2) y : Int) (P2 : Int))) (by simp; omega)).drew
        have RS3 : Hid (Box ((v2.setCell ⟨sb, y, none⟩ (.int .u64 (bits .or .u64 ((upB (sgN l k) x P2) y : Int) (P2 : Int)))).drew) sb (sgc (upB (upB (sgN l k) x P2) y P2)) 127) := Lib.hid (by
          have h := (RS2.out.set y (.int .u64 (bits .or .u64 ((upB (sgN l k) x P2) y : Int) (P2 : Int)))).drew
          have e : (sgc (upB (sgN l k) x P2)).setIfInBounds y (.int .u64 (bits .or .u64 ((upB (sgN l k) x P2) y : Int) (P2 : Int))) = sgc (upB (upB (sgN l k) x P2) y P2) := by rw [N2.out]; exact sgc_up _ _ _ (by omega)
          rw [e] at h
          exact h)
        have B3 : Below w.heap.size w ((v2.setCell ⟨sb, y, none⟩ (.int .u64 (bits .or .u64 ((upB (sgN l k) x P2) y : Int) (P2 : Int)))).drew) := by (repeat' (first | (with_reducible exact Below.refl _ _) | (with_reducible assumption) | (with_reducible refine Below.drew ?_) | (with_reducible refine below_drewN ?_ _) | (with_reducible refine Below.setCell ?_ ?_ _) | (with_reducible refine Below.alloc ?_ ?_ _) | go_size | omega))
        generalize ((v2.setCell ⟨sb, y, none⟩ (.int .u64 (bits .or .u64 ((upB (sgN l k) x P2) y : Int) (P2 : Int)))).drew) = v3 at *
        clear d1 ld ls1 q0 f0 D2 RR2 RS2 B2 N2
        go_wp2_with fail
        go_roundw
        case rel => exact ⟨k + 1, by omega, by go_num, RR3.out, by rw [HN.out]; exact RS3.out, B3⟩
        case measure => simp [intOf]; omega
      · obtain rfl : k = l.length := by omega
        obtain ⟨sF, hsF⟩ : ∃ s, sgN l l.length = s := ⟨_, rfl⟩
        rw [hsF] at RS
        have HF := Lib.hid hsF; clear hsF
        have lr := RR.lt; have ls := RS.lt
        have zr := RB.size
        have RR := Lib.hid RR; have RS := Lib.hid RS
        go_wp2_with (first
          | (refine wpList_load_row rfl 127 _ rfl sb rfl _ (sgc sF) (0, 0) _ RS.out Tryd.underlying127 rfl (infoSgs sF) ?_)
          | (refine wpList_store_mid rfl 127 _ _ rfl w.heap.size 0 (sgc sF) rfl rfl (by rw [sgc_size, ← sgc_size (fun _ => 0)]; exact RR.out.there) (infoSgs sF) (sgc_one sF) ?_))
        have RF := RR.out.putSg (s' := sF)
        have BF : Below w.heap.size w (wr.setCells w.heap.size 0 (sgc sF).toList) := Below.sets (Nat.le_refl _) _ _ RB
        generalize (wr.setCells w.heap.size 0 (sgc sF).toList) = wf at *
        refine bodyPost_ret (v := .tuple #[.agg (sgc sF), .int .i64 0]) (results_row2 Tryd.results91 _ wf w.heap.size _ rfl (run_loadVar_row wf _ _ 127 _ _ _ RF Tryd.underlying127 rfl (infoSgs sF))) rfl ⟨by rw [if_pos H0.out, HF.out, H0.out], BF⟩
  · have hz' : (e0 != 0) = true := by simpa using hz
    have HZ := Lib.hid hz; clear hz
    go_enter Tryd.func91, Tryd.ntmps91
    go_wp2_with fail
    refine (CT.out _ (HP.out.keep (B1.mono (Nat.le_refl _))) (HS.out.keep B1)).mono ?_
    rintro e w2 ⟨rfl, h2⟩
    have B2 : Below w.heap.size w w2 := below_via B1 h2
    have R2 := Lib.hid (R1.out.keep (by rw [← zeroSg]; exact h2))
    clear h2 CT HP R1 B1
    go_wp2_with (refine wpList_store_mid rfl 127 _ _ rfl w.heap.size 0 _ rfl rfl (by rw [zeroSg]; exact R2.out.there) (by rw [zeroSg]; exact infoSgs _) (by rw [zeroSg]; exact sgc_one _) ?_)
    rw [zeroSg]
    have RF := R2.out.putSg (s' := fun _ => 0)
    have BF : Below w.heap.size w (w2.setCells w.heap.size 0 (sgc fun _ => 0).toList) := Below.sets (Nat.le_refl _) _ _ B2
    generalize (w2.setCells w.heap.size 0 (sgc fun _ => 0).toList) = wf at *
    refine bodyPost_ret (v := .tuple #[.agg (sgc fun _ => 0), .int .i64 e0]) (results_row2 Tryd.results91 _ wf w.heap.size _ rfl (run_loadVar_row wf _ _ 127 _ _ _ RF Tryd.underlying127 rfl (infoSgs _))) rfl ⟨by rw [H0.out, if_neg HZ.out], BF⟩
end Go.Proofs.YtnjlifmjjihahaaDoor
