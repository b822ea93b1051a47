/-
  A range over a function whose iterator writes the k blocks that it lays first: the law for the caller. No condition but those of the statement.
-/
import Derived.RangeFuncNested
import Derived.RangeFuncBound
import Derived.RangeFuncCalls
import Derived.RangeFuncLeaves
import Derived.Shelf.Abstract
import Derived.Shelf.RegionOpen
import Derived.WalkKit
import Derived.OwnWalkIn
import Derived.TacticsInMore
import Derived.LoopNIn
import Derived.LoopIn
import Derived.Test.YtnjlifmjjihahaaDoorBase
namespace Go.Proofs.YtnjlifmjjihahaaDoor
open Go Go.RowKit Go.Shelf
/-- an invariant abides new blocks, and whatever is written to the k blocks from B on -/
def AbidesK {β : Type} (B k : Nat) (J : β → World → Prop) : Prop :=
  ∀ s W W' row, J s W → W.grownBy W' row → (∀ r, row = some r → B ≤ r ∧ r < B + k) → J s W'
/-- what is kept of the blocks of a set -/
def Kpn (Kb : Nat → Prop) (W W' : World) : Prop := W.heap.size ≤ W'.heap.size ∧ ∀ r, Kb r → r < W.heap.size → W'.heap[r]? = W.heap[r]?
theorem Kpn.refl (Kb : Nat → Prop) (W : World) : Kpn Kb W W := ⟨Nat.le_refl _, fun _ _ _ => rfl⟩
theorem Kpn.trans {Kb : Nat → Prop} {W1 W2 W3 : World} (h : Kpn Kb W1 W2) (h' : Kpn Kb W2 W3) : Kpn Kb W1 W3 :=
  ⟨Nat.le_trans h.1 h'.1, fun r a b => (h'.2 r a (Nat.lt_of_lt_of_le b h.1)).trans (h.2 r a b)⟩
theorem Kpn.grown {Kb : Nat → Prop} {W W' : World} {row : Option Nat} (hg : W.grownBy W' row) (hr : ∀ r, row = some r → ¬ Kb r) : Kpn Kb W W' :=
  ⟨hg.size, fun r a b => hg.block r b (fun e => hr r e.symm a)⟩
theorem Kpn.below {Kb : Nat → Prop} {W W' : World} (h : Below W.heap.size W W') : Kpn Kb W W' := ⟨h.size, fun r _ b => h.block r b⟩
theorem Kpn.set {Kb : Nat → Prop} (W : World) (b o : Nat) (v : Value) (h : ¬ Kb b) : Kpn Kb W (W.setCell ⟨b, o, none⟩ v) :=
  ⟨by simp, fun r a _ => Below.heap_setCell W ⟨b, o, none⟩ v r (fun e => h (by have e : r = b := e; rwa [e] at a))⟩
theorem Kpn.cell {Kb : Nat → Prop} {W W' : World} (h : Kpn Kb W W') {b o : Nat} (hb : Kb b) (hl : b < W.heap.size) : W'.cell? ⟨b, o, none⟩ = W.cell? ⟨b, o, none⟩ := World.cell?_of_block (h.2 b hb hl)
/-- what a round keeps: the blocks of a set, and the k blocks from B on -/
def KpC (Kb : Nat → Prop) (B k : Nat) (W W' : World) : Prop := Kpn Kb W W' ∧ ∀ r, B ≤ r → r < B + k → r < W.heap.size → W'.heap[r]? = W.heap[r]?
theorem KpC.refl (Kb : Nat → Prop) (B k : Nat) (W : World) : KpC Kb B k W W := ⟨Kpn.refl _ _, fun _ _ _ _ => rfl⟩
theorem KpC.trans {Kb : Nat → Prop} {B k : Nat} {W1 W2 W3 : World} (h : KpC Kb B k W1 W2) (h' : KpC Kb B k W2 W3) : KpC Kb B k W1 W3 :=
  ⟨h.1.trans h'.1, fun r a b c => (h'.2 r a b (Nat.lt_of_lt_of_le c h.1.1)).trans (h.2 r a b c)⟩
theorem KpC.putObj {Kb : Nat → Prop} {B k : Nat} (W : World) (l : Nat) (o o' : Obj) (hn : ¬ Kb l) (hl : l < B) (h : W.heap[l]? = some o) : KpC Kb B k W (W.putObj l o') :=
  ⟨Kpn.grown (grownBy_putObj' W l o') (fun r e => by cases e; exact hn), fun r a _ _ => World.putObj_heap_other (by omega)⟩
/-- the iterator's word -/
def SeqC {α : Type} (F : Fence) (n : Nat) (P : Program) (g : Nat) (lb : Array Value) (encs : α → Array Value) (At : α → World → Prop) (Kb : Nat → Prop) (k N : Nat) (S : List α → Prop) (w : World) : Prop :=
  ∀ (l : Nat) (J : List α → World → Prop) (W : World), W.heap.size = w.heap.size + 2 → Below w.heap.size w W → AbidesK W.heap.size k J →
    (∀ m pre x W1, J pre W1 → pre.length < N → W.heap.size + k ≤ W1.heap.size → At x W1 → YieldAt F m P l (encs x) W1 fun e W' =>
      e = .returned (.bool true) ∧ J (pre ++ [x]) W' ∧ KpC Kb W.heap.size k W1 W') →
    J [] W →
    CallsIn F n P g (#[.func (.yield l) #[] #[]] ++ lb) W fun e W' => (∃ v, e = .returned v) ∧ ∃ xs, S xs ∧ J xs W'
def ownPostC {α : Type} (Kp : World → World → Prop) (I : List α → World → Prop) (xs : List α) (W : World) : Exit → Act → World → Prop
  | .normal, _, W' => KeepsOthers W W' ∧ Kp W W' ∧ I xs W'
  | _, _, _ => False
variable {F : Fence} {n : Nat} {P : Program}
theorem wpIn_rangeFunc_C {α : Type} {g : Operand} {ps : Array Tmp} {assign body : Code} {Q : Exit → Act → World → Prop} {a : Act} {w : World}
    (hro : F.round = none) (h1 : 1 ≤ n) {gf : Nat} {lb : Array Value} (hg : a.eval g = .func (.func gf) #[] lb) (hFg : F.fn gf) (eg : ∀ args w, (callFunc gf args).run P w = .ok (.enter gf args) w)
    {encs : α → Array Value} {At : α → World → Prop} {S : List α → Prop} {Kb : Nat → Prop} {k N : Nat} (hKb : ∀ r, Kb r → r < w.heap.size) (hAt : AbidesK w.heap.size 2 At) (hseq : SeqC F (n - 1) P gf lb encs At Kb k N S w)
    (hps : ∀ x, (encs x).size = ps.size)
    (I : List α → World → Prop) (hI : AbidesK w.heap.size (2 + k) I) (h0 : I [] w) (a₁ : α → Act)
    (hassign : ∀ (m l : Nat) (x : α) (W : World) (K : Act → World → Prop), K (a₁ x) W →
      assign.wpIn (F.inRound l) m P (Exit.then K (fun _ _ _ => False)) { tmps := (ps.zip (encs x)).foldl (fun t (p, v) => t.setIfInBounds p v) a.tmps, defers := [] } W)
    (hbody : ∀ (m l : Nat) (pre : List α) (x : α) (W : World), I pre W → pre.length < N → w.heap.size + 2 + k ≤ W.heap.size → At x W → body.wpIn (F.inRound l) m P (ownPostC (KpC Kb (w.heap.size + 2) k) I (pre ++ [x]) W) (a₁ x) W)
    (hdone : ∀ (D : Nat) (xs : List α) (W : World), w.heap.size ≤ D → S xs → I xs W → W.heap[D]? = some (.deferred (some [])) → Q .normal { a with defers := { target := .collected D, args := #[] } :: a.defers } W) :
    (Code.rangeFunc g ps assign body).wpIn F n P Q a w := by
  refine wpIn_rangeFunc ?_
  intro fn hfn
  rw [hro]
  obtain ⟨rec, hrec⟩ : ∃ rec : LoopState → Option Code → Loop, rec = fun st pe => { state := st, pending := pe, fn, tmps := a.tmps, params := ps, assign, body, defers := w.heap.size } := ⟨_, rfl⟩
  obtain ⟨W1, hW1⟩ : ∃ W1, (w.alloc (.deferred (some []))).alloc (.loop (rec .ready none)) = W1 := ⟨_, rfl⟩
  have hL1 : W1.heap[w.heap.size + 1]? = some (.loop (rec .ready none)) := by
    rw [← hW1]; have := World.alloc_heap_new (w.alloc (.deferred (some []))) (.loop (rec .ready none)); rwa [World.size_alloc] at this
  have hK1 : W1.heap[w.heap.size]? = some (.deferred (some [])) := by
    rw [← hW1]; exact (Below.heap_alloc _ _ _ (by simp)).trans (World.alloc_heap_new w _)
  have hz1 : W1.heap.size = w.heap.size + 2 := by rw [← hW1]; simp
  have hI1 : I [] W1 := by
    rw [← hW1]
    exact hI _ _ _ none (hI _ _ _ none h0 (World.grownBy_alloc w _ none) (fun r e => by cases e)) (World.grownBy_alloc _ _ none) (fun r e => by cases e)
  have hb1 : Below w.heap.size w W1 := by
    rw [← hW1]; exact (((Below.refl _ w).alloc (Nat.le_refl _) _).alloc (by simp) _)
  refine ⟨w.heap.size + 1, [{ target := .collected w.heap.size, args := #[] }], W1, { target := .fn (.func gf) lb, args := #[.func (.yield (w.heap.size + 1)) #[] #[]] }, W1, gf,
    #[.func (.yield (w.heap.size + 1)) #[] #[]] ++ lb, W1, ?_, ?_, ?_, ?_, fun _ => h1, ?_⟩
  · rw [← hW1, hrec]; exact run_enterLoop_outer _ _ _ _ _
  · simp only [resolve, hg]
    simp [go_sem]
  · intro f' hf'; simp [Target.leads] at hf'; subst hf'; exact hFg
  · simp [invoke, go_sem, eg]
  · have turn : ∀ (xs : List α) (W : World) (o' : Obj), I xs W → I xs (W.putObj (w.heap.size + 1) o') := fun xs W o' h =>
      hI _ _ _ (some (w.heap.size + 1)) h (grownBy_putObj' W _ _) (fun r e => by cases e; omega)
    refine (hseq (w.heap.size + 1)
      (fun pre W => I pre W ∧ W.heap[w.heap.size + 1]? = some (.loop (rec .ready none)) ∧ W.heap[w.heap.size]? = some (.deferred (some [])))
      W1 hz1 hb1
      (fun s A B row hs hg' hr => ⟨hI s A B row hs.1 hg' (fun r e => by have := hr r e; omega),
        (hg'.block _ (Array.getElem?_eq_some_iff.1 hs.2.1).1 (fun e => by have := hr _ e.symm; omega)).trans hs.2.1,
        (hg'.block _ (Array.getElem?_eq_some_iff.1 hs.2.2).1 (fun e => by have := hr _ e.symm; omega)).trans hs.2.2⟩)
      ?_ ⟨hI1, hL1, hK1⟩).mono ?_
    · rintro m pre x W ⟨hi, hl, hk⟩ hlen hsz hat
      have hlt : w.heap.size + 1 < W.heap.size := (Array.getElem?_eq_some_iff.1 hl).1
      have hy := run_yield (P := P) (args := encs x) hl (by rw [hrec]; exact hps x)
      rw [hrec] at hy
      rw [hz1] at hsz ⊢
      refine ⟨fn, _, assign, body, hy, roundIn_of_wpIn hfn (hassign _ _ x W _ ⟨_, run_beginRound hl (by rw [hrec]), ?_⟩)⟩
      have hl2 : (W.putObj (w.heap.size + 1) (.loop { rec .ready none with state := .busy })).heap[w.heap.size + 1]? = some (.loop { rec .ready none with state := .busy }) := World.putObj_heap_same hlt
      have hk2 : (W.putObj (w.heap.size + 1) (.loop { rec .ready none with state := .busy })).heap[w.heap.size]? = some (.deferred (some [])) := (World.putObj_heap_other (by omega)).trans hk
      have hw2 : KpC Kb (w.heap.size + 2) k W (W.putObj (w.heap.size + 1) (.loop { rec .ready none with state := .busy })) := KpC.putObj _ _ _ _ (fun h => by have := hKb _ h; omega) (by omega) hl
      have hzz : (W.putObj (w.heap.size + 1) (.loop { rec .ready none with state := .busy })).heap.size = W.heap.size := by simp [World.putObj]
      refine wpIn_mono (hbody _ _ pre x _ (turn _ _ _ hi) hlen (by rw [hzz]; omega) (hAt _ _ _ (some (w.heap.size + 1)) hat (grownBy_putObj' W _ _) (fun r e => by cases e; omega))) ?_
      rintro e a3 W3 hp
      cases e with
      | normal =>
        obtain ⟨hk3, hkp3, hi3⟩ := hp
        have hl3 := hk3.same _ _ hl2 rfl
        have hr := run_endRound (P := P) none hl3
        rw [hrec] at hr
        refine ⟨_, _, hr, rfl, ⟨turn _ _ _ hi3, ?_, ?_⟩, (hw2.trans hkp3).trans (KpC.putObj _ _ _ _ (fun h => by have := hKb _ h; omega) (by omega) hl3)⟩
        · rw [hrec]; exact World.putObj_heap_same (Array.getElem?_eq_some_iff.1 hl3).1
        · exact (World.putObj_heap_other (by omega)).trans (hk3.same _ _ hk2 rfl)
      | ret => exact hp.elim
      | exit id => exact hp.elim
      | goto t => exact hp.elim
      | panic ch => exact hp.elim
      | outgrown => exact hp.elim
    · rintro e W2 ⟨⟨v, rfl⟩, xs, hS, hi, hl, hk⟩
      exact ⟨none, _, by have := run_endLoop (P := P) hl (by rw [hrec]; simp); rw [hrec] at this; exact this, hdone _ xs _ (Nat.le_refl _) hS (turn _ _ _ hi) ((World.putObj_heap_other (by omega)).trans hk)⟩
theorem room_of_none {F : Fence} (hd : F.depth = none) (k : Nat) : F.room k := fun d h => by rw [hd] at h; cases h
theorem roundIn_anyDepth {F : Fence} (hd : F.depth = none) {m m' : Nat} {P : Program} {l : Nat} {f : FuncId} {tmps : Array Value} {assign body : Code} {w : World} {R : Ending → World → Prop}
    (h : RoundIn F m P l f tmps assign body w R) : RoundIn F m' P l f tmps assign body w R := ⟨h.1, fun c cs _ => h.2 c cs (room_of_none hd _)⟩
end Go.Proofs.YtnjlifmjjihahaaDoor
