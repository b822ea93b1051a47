/-
  Arguments opened: fractions, ranges, bearings, places and pairs of places.
-/
import Derived.Test.YtahfliboanphkaaBase
import Derived.ProofKit
import Derived.OpenShut
import Derived.ShutString
import Derived.ChangeOld
import Derived.Below
import Derived.Carry
import Derived.Laws.IdiomArrays
namespace Go.Proofs.Ytahfliboanphkaa
open Go.ChangeShapes Go.WideShapes Go.ChangeAt Go.RowKit
theorem own : ownKnob Try.prog.godebug = none := by kernel_rfl
theorem laidOut : laidOutB Try.prog = true := by kernel_rfl
theorem i64_bd {n : Int} (h : (Lit.int .i64 n).wf = true) : -9223372036854775808 ≤ n ∧ n ≤ 9223372036854775807 := by
  have hmin : IntKind.i64.min = -9223372036854775808 := rfl
  have hmax : IntKind.i64.max = 9223372036854775807 := rfl
  simp only [Lit.wf, Bool.and_eq_true, decide_eq_true_eq] at h
  omega
theorem cellsI : Try.prog.cellsOf 3 = 1 := by kernel_rfl
def I64 (n : Int) : Prop := -9223372036854775808 ≤ n ∧ n ≤ 9223372036854775807
section SecOp
variable {H : Type} {enc : TypeId × Value → H} {W : World} {base : Nat}
/-- a field of one whole number -/
theorem int_of {m : Nat} {c : Value} {y : Option (DataW H × List MemPlace)} (h : DataW.trod enc Try.prog W 0 (fun _ => true) true m 3 [c] = y) (hy : ∃ z, y = some z) : ∃ n : Int, c = .int .i64 n ∧ I64 n := by
  obtain ⟨z, rfl⟩ := hy
  obtain ⟨n, e, _, hw⟩ := DataW.trod_int Try.underlying3 h
  simp at e
  exact ⟨n, e, i64_bd hw⟩
set_option maxRecDepth 100000 in
theorem frac_open {v : Value} {d : DataW H} {p : List MemPlace} (hv : Value.okWide Try.prog W .any base 63 v) (h0 : DataW.Trod enc Try.prog W 0 (fun _ => true) true 63 v d p) :
    ∃ a b : Int, v = .agg #[.int .i64 a, .int .i64 b] ∧ I64 a ∧ I64 b := by
  obtain ⟨cs, rfl, hsz⟩ := okWide_struct Try.underlying63 hv
  have hC : Try.prog.cellsOf 63 = 2 := by kernel_rfl
  obtain ⟨l⟩ := cs
  match l, hsz.trans hC with
  | [c0, c1], _ =>
    obtain ⟨fuel, hfu⟩ := h0
    obtain ⟨xs, n, _, _, _, hlen, hg⟩ := DataW.trod_struct Try.underlying63 hfu
    have g0 := hg 0 _ rfl
    have g1 := hg 1 _ rfl
    simp [Value.cells, cellsI] at g0 g1 hlen
    obtain ⟨a, rfl, ha⟩ := int_of g0 ⟨_, List.getElem?_eq_getElem (by omega)⟩
    obtain ⟨b, rfl, hb⟩ := int_of g1 ⟨_, List.getElem?_eq_getElem (by omega)⟩
    exact ⟨a, b, rfl, ha, hb⟩
set_option maxRecDepth 100000 in
theorem range_open {v : Value} {d : DataW H} {p : List MemPlace} (hv : Value.okWide Try.prog W .any base 83 v) (h0 : DataW.Trod enc Try.prog W 0 (fun _ => true) true 83 v d p) :
    ∃ a b : Int, v = .agg #[.int .i64 a, .int .i64 b] ∧ I64 a ∧ I64 b := by
  obtain ⟨cs, rfl, hsz⟩ := okWide_struct Try.underlying83 hv
  have hC : Try.prog.cellsOf 83 = 2 := by kernel_rfl
  obtain ⟨l⟩ := cs
  match l, hsz.trans hC with
  | [c0, c1], _ =>
    obtain ⟨fuel, hfu⟩ := h0
    obtain ⟨xs, n, _, _, _, hlen, hg⟩ := DataW.trod_struct Try.underlying83 hfu
    have g0 := hg 0 _ rfl
    have g1 := hg 1 _ rfl
    simp [Value.cells, cellsI] at g0 g1 hlen
    obtain ⟨a, rfl, ha⟩ := int_of g0 ⟨_, List.getElem?_eq_getElem (by omega)⟩
    obtain ⟨b, rfl, hb⟩ := int_of g1 ⟨_, List.getElem?_eq_getElem (by omega)⟩
    exact ⟨a, b, rfl, ha, hb⟩
set_option maxRecDepth 100000 in
theorem bearing_open {v : Value} {d : DataW H} {p : List MemPlace} (hv : Value.okWide Try.prog W .any base 89 v) (h0 : DataW.Trod enc Try.prog W 0 (fun _ => true) true 89 v d p) :
    ∃ x0 x1 x2 x3 x4 : Int, v = .agg #[.int .i64 x0, .int .i64 x1, .int .i64 x2, .int .i64 x3, .int .i64 x4] ∧ I64 x0 ∧ I64 x1 ∧ I64 x2 ∧ I64 x3 ∧ I64 x4 := by
  obtain ⟨cs, rfl, hsz⟩ := okWide_struct Try.underlying89 hv
  have hC : Try.prog.cellsOf 89 = 5 := by kernel_rfl
  obtain ⟨l⟩ := cs
  match l, hsz.trans hC with
  | [c0, c1, c2, c3, c4], _ =>
    obtain ⟨fuel, hfu⟩ := h0
    obtain ⟨xs, n, _, _, _, hlen, hg⟩ := DataW.trod_struct Try.underlying89 hfu
    have g0 := hg 0 _ rfl
    have g1 := hg 1 _ rfl
    have g2 := hg 2 _ rfl
    have g3 := hg 3 _ rfl
    have g4 := hg 4 _ rfl
    simp [Value.cells, cellsI] at g0 g1 g2 g3 g4 hlen
    obtain ⟨a, rfl, ha⟩ := int_of g0 ⟨_, List.getElem?_eq_getElem (by omega)⟩
    obtain ⟨b, rfl, hb⟩ := int_of g1 ⟨_, List.getElem?_eq_getElem (by omega)⟩
    obtain ⟨c, rfl, hc⟩ := int_of g2 ⟨_, List.getElem?_eq_getElem (by omega)⟩
    obtain ⟨e, rfl, he⟩ := int_of g3 ⟨_, List.getElem?_eq_getElem (by omega)⟩
    obtain ⟨f, rfl, hf⟩ := int_of g4 ⟨_, List.getElem?_eq_getElem (by omega)⟩
    exact ⟨a, b, c, e, f, rfl, ha, hb, hc, he, hf⟩
/-- an array of three whole numbers, by its cells -/
theorem arr3_of {m : Nat} {c0 c1 c2 : Value} {y : Option (DataW H × List MemPlace)} (h : DataW.trod enc Try.prog W 0 (fun _ => true) true m 23 [c0, c1, c2] = y) (hy : ∃ z, y = some z) : ∃ a b c : Int, c0 = .int .i64 a ∧ c1 = .int .i64 b ∧ c2 = .int .i64 c ∧ I64 a ∧ I64 b ∧ I64 c := by
  obtain ⟨z, rfl⟩ := hy
  obtain ⟨y0, y1, y2, n, _, h0, h1, h2⟩ := trod_array3 Try.underlying23 cellsI h
  obtain ⟨a, rfl, ha⟩ := int_of h0 ⟨_, rfl⟩
  obtain ⟨b, rfl, hb⟩ := int_of h1 ⟨_, rfl⟩
  obtain ⟨c, rfl, hc⟩ := int_of h2 ⟨_, rfl⟩
  exact ⟨a, b, c, rfl, rfl, rfl, ha, hb, hc⟩
end SecOp
end Go.Proofs.Ytahfliboanphkaa
