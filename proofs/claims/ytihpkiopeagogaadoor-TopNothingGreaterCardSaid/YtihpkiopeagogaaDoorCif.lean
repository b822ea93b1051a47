/-
  Plain: where some numbers keep all bounds, no circle is accepted.
-/
import Derived.Test.YtihpkiopeagogaaDoorCir
import Derived.Test.YtihpkiopeagogaaDoorSlv
namespace Go.Proofs.YtihpkiopeagogaaDoor
def endOf (l : List Bd) : List Int → Int → Int
  | [], at_ => at_
  | i :: t, _ => endOf l t (bdAt l i).t
theorem endOf_last (l : List Bd) : ∀ (c : List Int) (h : 0 < c.length) (at_ : Int), endOf l c at_ = (bdAt l (c[c.length - 1]'(by omega))).t
  | [_], _, _ => rfl
  | a :: b :: t, _, _ => by
    show endOf l (b :: t) (bdAt l a).t = _
    rw [endOf_last l (b :: t) (by simp)]
    simp
theorem cir_feas {N : Nat} {x : Nat → Int} {l : List Bd} (hf : Feas N x (l.map toE)) : ∀ (c : List Int) (at_ S v : Int), cirB l c → cirL l c at_ S = (v, 0) → v < 0 ∧ S + (x (endOf l c at_).toNat - x at_.toNat) ≤ v
  | [], at_, S, v, _, h => by
    have h' : (if 0 ≤ S then ((0, 22) : Int × Int) else (S, 0)) = (v, 0) := h
    split at h'
    · simp at h'
    · simp at h'
      subst h'
      show S < 0 ∧ S + (x at_.toNat - x at_.toNat) ≤ S
      omega
  | i :: t, at_, S, v, hb, h => by
    have h' : (if (bdAt l i).f ≠ at_ then ((0, 25) : Int × Int) else cirL l t (bdAt l i).t (S + (bdAt l i).m)) = (v, 0) := h
    split at h'
    · simp at h'
    · rename_i hat
      have hat' : (bdAt l i).f = at_ := by simpa using hat
      have ih := cir_feas hf t _ _ v (fun j hj => hb j (List.mem_cons_of_mem _ hj)) h'
      obtain ⟨i0, i1⟩ := hb i (List.mem_cons_self ..)
      have hm : bdAt l i ∈ l := by rw [bdAt_get i0 i1]; exact List.getElem_mem _
      have hfe := (hf (toE (bdAt l i)) (List.mem_map_of_mem hm)).2.2
      have hfe' : x (bdAt l i).t.toNat ≤ x (bdAt l i).f.toNat + (bdAt l i).m := hfe
      rw [hat'] at hfe'
      refine ⟨ih.1, ?_⟩
      show S + (x (endOf l t (bdAt l i).t).toNat - x at_.toNat) ≤ v
      omega
theorem cirF_ok {l : List Bd} {c : List Int} (h : (cirF l c).2 = 0) : ∃ (_ : 0 < c.length) (v : Int), cirB l c ∧ cirL l c (bdAt l (c[c.length - 1]'(by omega))).t 0 = (v, 0) := by
  unfold cirF at h
  split at h
  · simp at h
  · split at h
    · simp at h
    · rename_i h1 h2
      have h0 : 0 < c.length := by omega
      refine ⟨h0, (cirL l c (bdAt l (c[c.length - 1]'(by omega))).t 0).1, fun i hi => ?_, ?_⟩
      · have ha : cirA l c = true := by cases hx : cirA l c <;> simp_all
        unfold cirA at ha; rw [List.all_eq_true] at ha
        have := ha i hi
        simp at this; omega
      · rw [List.getD_eq_getElem?_getD, List.getElem?_eq_getElem (show c.length - 1 < c.length by omega)] at h
        exact Prod.ext rfl h
/-- no circle is accepted -/
theorem no_circle {N : Nat} {x : Nat → Int} {l : List Bd} {c : List Int} (hf : Feas N x (l.map toE)) (hb : cirB l c) (h : 0 < c.length) {v : Int} (hc : cirL l c (bdAt l (c[c.length - 1]'(by omega))).t 0 = (v, 0)) : False := by
  have h1 := cir_feas hf c _ 0 v hb hc
  rw [endOf_last l c h] at h1
  omega
/-- the solution is the greatest: y is nowhere greater -/
theorem greater_no {N : Nat} {x s : Nat → Int} (h : ∀ v, v < N → x v ≤ s v ∧ s v ≤ 0) : ∀ v, v < N → ¬ s v < x v := fun v hv => by have := (h v hv).1; omega
end Go.Proofs.YtihpkiopeagogaaDoor
