/-
  Girders, opened; the law PlateGirders over what is opened.
-/
import Derived.Test.YtnfpmaenikhoaaaOp3
import Derived.Test.YtnfpmaenikhoaaaLgi
namespace Go.Proofs.Ytnfpmaenikhoaaa
open Go.ChangeShapes Go.WideShapes Go.ChangeAt Go.RowKit
set_option maxRecDepth 100000 in
theorem girder_open {H : Type} {enc : TypeId × Value → H} {W : World} {base : Nat} {v : Value} {d : DataW H} {p : List MemPlace} (hv : Value.okWide Try.prog W .any base 71 v) (h0 : DataW.Trod enc Try.prog W 0 (fun _ => true) true 71 v d p) :
    ∃ x0 x1 x2 : Int, v = .agg #[.int .i64 x0, .int .i64 x1, .int .i64 x2] ∧ I64 x0 ∧ I64 x1 ∧ I64 x2 := by
  obtain ⟨cs, rfl, hsz⟩ := okWide_struct Try.underlying71 hv
  have hC : Try.prog.cellsOf 71 = 3 := by kernel_rfl
  obtain ⟨l⟩ := cs
  match l, hsz.trans hC with
  | [c0, c1, c2], _ =>
    obtain ⟨fuel, hfu⟩ := h0
    obtain ⟨xs, n, _, _, _, hlen, hg⟩ := DataW.trod_struct Try.underlying71 hfu
    have g0 := hg 0 _ rfl
    have g1 := hg 1 _ rfl
    have g2 := hg 2 _ rfl
    simp [Value.cells, cellsI] at g0 g1 g2 hlen
    obtain ⟨a, rfl, ha⟩ := int_of g0 ⟨_, List.getElem?_eq_getElem (by omega)⟩
    obtain ⟨b, rfl, hb⟩ := int_of g1 ⟨_, List.getElem?_eq_getElem (by omega)⟩
    obtain ⟨c, rfl, hc⟩ := int_of g2 ⟨_, List.getElem?_eq_getElem (by omega)⟩
    exact ⟨a, b, c, rfl, ha, hb, hc⟩
theorem lawGirdersW (A B M : Int) (L : List (Int × Int)) (a : Option Addr) (cap : Nat) (w : World) (_ : I64 A) (_ : I64 B) (_ : I64 M) (hp : LdAt w a L) (hl : L.length ≤ 9223372036854775807) (_ : ∀ y ∈ L, I64 y.1 ∧ I64 y.2) :
    Calls Try.prog 9 #[gir A B M, .slice a L.length cap] w fun e w' => e = .returned (.bool true) ∧ Below w.heap.size w w' :=
  lawGirdersA A B M L a cap w (by assumption) (by assumption) (by assumption) hp hl
end Go.Proofs.Ytnfpmaenikhoaaa
