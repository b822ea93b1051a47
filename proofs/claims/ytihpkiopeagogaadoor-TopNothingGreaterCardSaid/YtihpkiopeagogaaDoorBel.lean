/-
  Plain lemmas on systems of differences: where some numbers x keep all bounds, lowering along the bounds ends within n rounds, never below x, with all bounds kept.
-/
namespace Go.Proofs.YtihpkiopeagogaaDoor

/-- distinct numbers below n are at most n -/
theorem nodup_len : ∀ (n : Nat) (l : List Nat), l.Nodup → (∀ v ∈ l, v < n) → l.length ≤ n := by
  intro n
  induction n with
  | zero =>
    intro l _ h
    cases l with
    | nil => exact Nat.le_refl _
    | cons a t => exact absurd (h a (List.mem_cons_self ..)) (Nat.not_lt_zero _)
  | succ n ih =>
    intro l hd h
    have h1 : (l.erase n).length ≤ n := by
      refine ih _ (hd.erase n) (fun v hv => ?_)
      have h2 := (List.Nodup.mem_erase_iff hd).1 hv
      have := h v h2.2
      have := h2.1
      omega
    have h3 : l.length ≤ (l.erase n).length + 1 := by
      rw [List.length_erase]; split <;> omega
    omega

structure Edge where
  u : Nat
  v : Nat
  m : Int

/-- what holds in round r (from 1 on) ahead of bound i; lv: the round in which an unknown was lowered last, ch: by which chain -/
structure BInv (n : Nat) (x : Nat → Int) (l : List Edge) (r i : Nat) (s : Nat → Int) (lv : Nat → Nat) (ch : Nat → List Nat) (low : Bool) : Prop where
  ge : ∀ v, v < n → x v ≤ s v
  nod : ∀ v, v < n → (ch v).Nodup
  mem : ∀ v, v < n → ∀ m ∈ ch v, m < n ∧ s m - x m ≤ s v - x v
  slf : ∀ v, v < n → v ∈ ch v
  len : ∀ v, v < n → lv v + 1 ≤ (ch v).length
  edg : ∀ j (h : j < l.length), s (l[j]).v ≤ s (l[j]).u + (l[j]).m ∨ r ≤ lv (l[j]).u ∨ (i ≤ j ∧ r ≤ lv (l[j]).u + 1)
  lvl : ∀ v, v < n → lv v ≤ r
  lwf : low = false → ∀ v, v < n → lv v + 1 ≤ r
  lwt : low = true → ∃ v, v < n ∧ lv v = r

def Feas (n : Nat) (x : Nat → Int) (l : List Edge) : Prop := ∀ e ∈ l, e.u < n ∧ e.v < n ∧ x e.v ≤ x e.u + e.m

theorem binv_start {n : Nat} {x : Nat → Int} {l : List Edge} (hx : ∀ v, v < n → x v ≤ 0) : BInv n x l 1 0 (fun _ => 0) (fun _ => 0) (fun v => [v]) false := by
  refine ⟨hx, fun v _ => by simp, fun v hv m hm => ?_, fun v _ => by simp, fun v _ => by simp, fun j h => .inr (.inr ⟨Nat.zero_le _, by omega⟩), fun v _ => by omega, fun _ v _ => by omega, fun h => by cases h⟩
  have : m = v := by simpa using hm
  subst this
  exact ⟨hv, Int.le_refl _⟩

theorem binv_keep {n : Nat} {x : Nat → Int} {l : List Edge} {r i : Nat} {s : Nat → Int} {lv : Nat → Nat} {ch : Nat → List Nat} {low : Bool} (H : BInv n x l r i s lv ch low) (hi : i < l.length)
    (h : s (l[i]).v ≤ s (l[i]).u + (l[i]).m) : BInv n x l r (i + 1) s lv ch low := by
  refine ⟨H.ge, H.nod, H.mem, H.slf, H.len, fun j hj => ?_, H.lvl, H.lwf, H.lwt⟩
  by_cases hji : j = i
  · subst hji; exact .inl h
  · rcases H.edg j hj with h1 | h1 | ⟨h1, h2⟩
    · exact .inl h1
    · exact .inr (.inl h1)
    · exact .inr (.inr ⟨by omega, h2⟩)

def upd {α : Type} (f : Nat → α) (v : Nat) (a : α) : Nat → α := fun w => if w = v then a else f w
theorem upd_same {α : Type} (f : Nat → α) (v : Nat) (a : α) : upd f v a v = a := if_pos rfl
theorem upd_other {α : Type} (f : Nat → α) {v w : Nat} (a : α) (h : w ≠ v) : upd f v a w = f w := if_neg h

theorem binv_lower {n : Nat} {x : Nat → Int} {l : List Edge} {r i : Nat} {s : Nat → Int} {lv : Nat → Nat} {ch : Nat → List Nat} {low : Bool} (H : BInv n x l r i s lv ch low) (hf : Feas n x l) (hi : i < l.length)
    (h : s (l[i]).u + (l[i]).m < s (l[i]).v) :
    BInv n x l r (i + 1) (upd s (l[i]).v (s (l[i]).u + (l[i]).m)) (upd lv (l[i]).v r) (upd ch (l[i]).v (ch (l[i]).u ++ [(l[i]).v])) true := by
  obtain ⟨hu, hv, hxx⟩ := hf _ (List.getElem_mem hi)
  have hlv : r ≤ lv (l[i]).u + 1 := by
    rcases H.edg i hi with h1 | h1 | ⟨_, h2⟩ <;> omega
  have hni : (l[i]).v ∉ ch (l[i]).u := by
    intro hm
    have := (H.mem _ hu _ hm).2
    omega
  have hne : (l[i]).u ≠ (l[i]).v := fun he => hni (he ▸ H.slf _ hu)
  generalize hU : (l[i]).u = U at *
  generalize hV : (l[i]).v = V at *
  generalize hM : (l[i]).m = M at *
  have hs : ∀ w, upd s V (s U + M) w ≤ s w := by
    intro w
    by_cases hw : w = V
    · subst hw; rw [upd_same]; omega
    · rw [upd_other _ _ hw]; exact Int.le_refl _
  refine ⟨fun w hw => ?_, fun w hw => ?_, fun w hw m hm => ?_, fun w hw => ?_, fun w hw => ?_, fun j hj => ?_, fun w hw => ?_, (fun hc => by cases hc), fun _ => ⟨V, hv, upd_same ..⟩⟩
  · by_cases hwv : w = V
    · subst hwv; rw [upd_same]; have := H.ge _ hu; omega
    · rw [upd_other _ _ hwv]; exact H.ge w hw
  · by_cases hwv : w = V
    · subst hwv; rw [upd_same]
      rw [List.nodup_append]
      refine ⟨H.nod _ hu, by simp, fun a ha b hb => ?_⟩
      have hb' : b = w := by simpa using hb
      subst hb'
      intro he; subst he; exact hni ha
    · rw [upd_other _ _ hwv]; exact H.nod w hw
  · by_cases hwv : w = V
    · subst hwv; rw [upd_same] at hm; rw [upd_same]
      rcases List.mem_append.1 hm with h1 | h1
      · have h2 := H.mem _ hu _ h1
        have h3 := hs m
        exact ⟨h2.1, by omega⟩
      · have : m = w := by simpa using h1
        subst this
        rw [upd_same]
        exact ⟨hv, Int.le_refl _⟩
    · rw [upd_other _ _ hwv] at hm
      rw [upd_other _ _ hwv]
      have h2 := H.mem w hw m hm
      have h3 := hs m
      exact ⟨h2.1, by omega⟩
  · by_cases hwv : w = V
    · subst hwv; rw [upd_same]; simp
    · rw [upd_other _ _ hwv]; exact H.slf w hw
  · by_cases hwv : w = V
    · subst hwv; rw [upd_same, upd_same]
      have := H.len _ hu
      simp; omega
    · rw [upd_other _ _ hwv, upd_other _ _ hwv]; exact H.len w hw
  · by_cases hju : (l[j]).u = V
    · exact .inr (.inl (by rw [hju, upd_same]; exact Nat.le_refl _))
    · have h3 := hs (l[j]).v
      by_cases hji : j = i
      · subst hji
        refine .inl ?_
        rw [hV, hU, hM, upd_same, upd_other _ _ hne]
        exact Int.le_refl _
      · rw [upd_other s _ hju, upd_other lv _ hju]
        rcases H.edg j hj with h1 | h1 | ⟨h1, h2⟩
        · exact .inl (by omega)
        · exact .inr (.inl h1)
        · exact .inr (.inr ⟨by omega, h2⟩)
  · by_cases hwv : w = V
    · subst hwv; rw [upd_same]; exact Nat.le_refl _
    · rw [upd_other _ _ hwv]; exact H.lvl w hw

/-- a round in which nothing was lowered: all bounds are kept -/
theorem binv_done {n : Nat} {x : Nat → Int} {l : List Edge} {r : Nat} {s : Nat → Int} {lv : Nat → Nat} {ch : Nat → List Nat} (H : BInv n x l r l.length s lv ch false) (hf : Feas n x l) : ∀ e ∈ l, s e.v ≤ s e.u + e.m := by
  intro e he
  obtain ⟨j, hj, rfl⟩ := List.getElem_of_mem he
  have hu := (hf _ he).1
  have h0 := H.lwf rfl _ hu
  rcases H.edg j hj with h1 | h1 | ⟨h1, h2⟩
  · exact h1
  · omega
  · omega
theorem binv_next {n : Nat} {x : Nat → Int} {l : List Edge} {r : Nat} {s : Nat → Int} {lv : Nat → Nat} {ch : Nat → List Nat} {low : Bool} (H : BInv n x l r l.length s lv ch low) : BInv n x l (r + 1) 0 s lv ch false := by
  refine ⟨H.ge, H.nod, H.mem, H.slf, H.len, fun j hj => ?_, fun v hv => Nat.le_succ_of_le (H.lvl v hv), fun _ v hv => Nat.succ_le_succ (H.lvl v hv), fun h => by cases h⟩
  rcases H.edg j hj with h1 | h1 | ⟨h1, h2⟩
  · exact .inl h1
  · exact .inr (.inr ⟨Nat.zero_le _, by omega⟩)
  · omega
/-- in round n nothing is lowered -/
theorem binv_last {n : Nat} {x : Nat → Int} {l : List Edge} {i : Nat} {s : Nat → Int} {lv : Nat → Nat} {ch : Nat → List Nat} {low : Bool} (H : BInv n x l n i s lv ch low) : low = false := by
  cases low
  · rfl
  · exfalso
    obtain ⟨v, hv, he⟩ := H.lwt rfl
    have h1 := nodup_len n (ch v) (H.nod v hv) (fun m hm => (H.mem v hv m hm).1)
    have h2 := H.len v hv
    omega
end Go.Proofs.YtihpkiopeagogaaDoor
