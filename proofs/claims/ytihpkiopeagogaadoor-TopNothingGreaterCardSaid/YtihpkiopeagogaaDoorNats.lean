/-
  Plain lemmas on whole numbers in words of 64 bits: the value of a list of words, what a multiplication word by word leaves, and how two lists without a leading 0 compare. No program, no condition but those that stand in the lemmas.
-/
namespace Go.Proofs.YtihpkiopeagogaaDoor.Nats

def B : Nat := 18446744073709551616
theorem B_pos : 0 < B := by decide
def val : List Nat → Nat
  | [] => 0
  | x :: l => x + B * val l
theorem val_append (l r : List Nat) : val (l ++ r) = val l + B ^ l.length * val r := by
  induction l with
  | nil => simp [val]
  | cons x l ih =>
    simp only [List.cons_append, val, ih, List.length_cons, Nat.pow_succ, Nat.mul_add]
    rw [Nat.mul_assoc (B ^ l.length) B, Nat.mul_left_comm (B ^ l.length) B]
    omega
theorem val_lt (l : List Nat) (h : ∀ x ∈ l, x < B) : val l < B ^ l.length := by
  induction l with
  | nil => simp [val]
  | cons x l ih =>
    have h1 := ih (fun y hy => h y (List.mem_cons_of_mem _ hy))
    have h2 := h x (List.mem_cons_self ..)
    simp only [val, List.length_cons, Nat.pow_succ]
    have h3 : B * (val l + 1) ≤ B * B ^ l.length := Nat.mul_le_mul_left _ h1
    rw [Nat.mul_add] at h3
    rw [Nat.mul_comm (B ^ l.length) B]
    omega

structure Norm (l : List Nat) : Prop where
  ne : l ≠ []
  lt : ∀ x ∈ l, x < B
  le : B ^ (l.length - 1) ≤ val l
theorem Norm.pos {l : List Nat} (h : Norm l) : 0 < l.length := List.length_pos_iff.2 h.ne
theorem Norm.val_pos {l : List Nat} (h : Norm l) : 0 < val l := Nat.lt_of_lt_of_le (Nat.pow_pos B_pos) h.le
theorem norm_one : Norm [1] := ⟨by simp, by simp [B], by simp [val]⟩
theorem val_one : val [1] = 1 := by simp [val]

/-- the state behind k rounds of a multiplication: the words, the carry -/
def st (xs : List Nat) (y : Nat) : Nat → List Nat × Nat
  | 0 => (xs, 0)
  | k + 1 => ((st xs y k).1.set k (((st xs y k).1.getD k 0 * y + (st xs y k).2) % B), ((st xs y k).1.getD k 0 * y + (st xs y k).2) / B)
theorem st_len (xs : List Nat) (y k : Nat) : (st xs y k).1.length = xs.length := by
  induction k with
  | zero => rfl
  | succ k ih => simp [st, ih]
theorem st_get (xs : List Nat) (y k : Nat) : ∀ j, k ≤ j → (st xs y k).1.getD j 0 = xs.getD j 0 := by
  induction k with
  | zero => intro j _; rfl
  | succ k ih =>
    intro j hj
    have := ih j (by omega)
    simp only [st, List.getD_eq_getElem?_getD] at *
    rw [List.getElem?_set_ne (by omega)]; exact this
theorem carry_lt (x y c : Nat) (hx : x < B) (hy : y < B) (hc : c < B) : (x * y + c) / B < B := by
  rw [Nat.div_lt_iff_lt_mul B_pos]
  have h1 : x * y ≤ (B - 1) * (B - 1) := Nat.mul_le_mul (by omega) (by omega)
  have h2 : (B - 1) * (B - 1) + B ≤ B * B := by decide
  omega
theorem st_lt (xs : List Nat) (y : Nat) (hy : y < B) (h : ∀ x ∈ xs, x < B) (k : Nat) : (st xs y k).2 < B ∧ ∀ x ∈ (st xs y k).1, x < B := by
  induction k with
  | zero => exact ⟨B_pos, h⟩
  | succ k ih =>
    have hg : (st xs y k).1.getD k 0 < B := by
      rw [List.getD_eq_getElem?_getD]
      by_cases hk : k < (st xs y k).1.length
      · rw [List.getElem?_eq_getElem hk]; exact ih.2 _ (List.getElem_mem _)
      · rw [List.getElem?_eq_none (by omega)]; exact B_pos
    refine ⟨carry_lt _ _ _ hg hy ih.1, fun x hx => ?_⟩
    rcases List.mem_or_eq_of_mem_set hx with h' | h'
    · exact ih.2 x h'
    · subst h'; exact Nat.mod_lt _ B_pos
theorem take_set_self (l : List Nat) (k v : Nat) (hk : k < l.length) : (l.set k v).take (k + 1) = l.take k ++ [v] := by
  rw [List.take_succ_eq_append_getElem (by simpa using hk)]
  simp [List.take_set_of_le]
theorem take_succ_getD (l : List Nat) (k : Nat) (hk : k < l.length) : l.take (k + 1) = l.take k ++ [l.getD k 0] := by
  rw [List.take_succ_eq_append_getElem hk, List.getD_eq_getElem?_getD, List.getElem?_eq_getElem hk]; rfl
theorem st_val (xs : List Nat) (y : Nat) (k : Nat) (hk : k ≤ xs.length) : val ((st xs y k).1.take k) + B ^ k * (st xs y k).2 = val (xs.take k) * y := by
  induction k with
  | zero => simp [st, val]
  | succ k ih =>
    have h1 := ih (by omega)
    have hl := st_len xs y k
    have hg := st_get xs y k k (Nat.le_refl _)
    simp only [st]
    rw [take_set_self _ _ _ (by omega), take_succ_getD xs k (by omega), val_append, val_append, hg]
    have e1 : ((st xs y k).1.take k).length = k := by rw [List.length_take]; omega
    have e2 : (xs.take k).length = k := by rw [List.length_take]; omega
    rw [e1, e2]
    simp only [val, Nat.mul_zero, Nat.add_zero]
    generalize val ((st xs y k).1.take k) = p at *
    generalize (st xs y k).2 = c at *
    generalize xs.getD k 0 = x at *
    generalize val (xs.take k) = q at *
    have h2 := Nat.mod_add_div (x * y + c) B
    have h3 : B ^ k * ((x * y + c) % B) + B ^ (k + 1) * ((x * y + c) / B) = B ^ k * (x * y + c) := by
      rw [Nat.pow_succ, Nat.mul_assoc, ← Nat.mul_add, h2]
    rw [Nat.add_mul, ← h1, Nat.add_assoc, h3, Nat.mul_add, Nat.mul_assoc]
    omega
/-- the words behind the multiplication -/
def mulW (xs : List Nat) (y : Nat) : List Nat := if (st xs y xs.length).2 = 0 then (st xs y xs.length).1 else (st xs y xs.length).1 ++ [(st xs y xs.length).2]
theorem mulW_val (xs : List Nat) (y : Nat) : val (mulW xs y) = val xs * y := by
  have h := st_val xs y xs.length (Nat.le_refl _)
  have hl := st_len xs y xs.length
  rw [List.take_of_length_le (by omega), List.take_of_length_le (by omega)] at h
  unfold mulW
  split
  · rename_i h0; rw [h0] at h; simpa using h
  · rw [val_append, hl]; simp only [val, Nat.mul_zero, Nat.add_zero]; exact h
theorem mulW_len (xs : List Nat) (y : Nat) : (mulW xs y).length ≤ xs.length + 1 ∧ xs.length ≤ (mulW xs y).length := by
  have hl := st_len xs y xs.length
  unfold mulW; split <;> simp [hl]
theorem mulW_norm (xs : List Nat) (y : Nat) (h : Norm xs) (hy0 : 1 ≤ y) (hy : y < B) : Norm (mulW xs y) := by
  have hv := mulW_val xs y
  have hlen := mulW_len xs y
  have hp := h.pos
  have hlt := st_lt xs y hy h.lt xs.length
  have hl := st_len xs y xs.length
  refine ⟨fun h0 => by have h9 := hlen.2; rw [h0, List.length_nil] at h9; omega, ?_, ?_⟩
  · unfold mulW
    split
    · exact hlt.2
    · intro x hx
      rcases List.mem_append.1 hx with h' | h'
      · exact hlt.2 x h'
      · simp at h'; subst h'; exact hlt.1
  · by_cases h0 : (st xs y xs.length).2 = 0
    · have e : (mulW xs y).length = xs.length := by unfold mulW; rw [if_pos h0, hl]
      rw [e, hv]
      exact Nat.le_trans h.le (Nat.le_mul_of_pos_right _ hy0)
    · have e : mulW xs y = (st xs y xs.length).1 ++ [(st xs y xs.length).2] := by unfold mulW; rw [if_neg h0]
      rw [e, val_append, List.length_append, hl]
      simp only [List.length_singleton, Nat.add_sub_cancel, val, Nat.mul_zero, Nat.add_zero]
      have : B ^ xs.length * 1 ≤ B ^ xs.length * (st xs y xs.length).2 := Nat.mul_le_mul_left _ (Nat.pos_of_ne_zero h0)
      rw [Nat.mul_one] at this
      exact Nat.le_trans this (Nat.le_add_left _ _)

/-- how two lists compare, from the word number k - 1 down -/
def cmpN (x y : Nat) : Int := if x < y then -1 else if y < x then 1 else 0
theorem cmp_len {a b : List Nat} (ha : Norm a) (hb : Norm b) (h : a.length < b.length) : val a < val b := by
  have h1 := val_lt a ha.lt
  have h2 : B ^ a.length ≤ B ^ (b.length - 1) := Nat.pow_le_pow_right B_pos (by omega)
  exact Nat.lt_of_lt_of_le h1 (Nat.le_trans h2 hb.le)
theorem split_at (l : List Nat) (i : Nat) (hi : i < l.length) : val l = val (l.take i) + B ^ i * (l.getD i 0 + B * val (l.drop (i + 1))) := by
  have e1 : l.take i ++ l.drop i = l := List.take_append_drop i l
  have e2 : l.drop i = l.getD i 0 :: l.drop (i + 1) := by
    rw [List.drop_eq_getElem_cons hi, List.getD_eq_getElem?_getD, List.getElem?_eq_getElem hi]; rfl
  conv => lhs; rw [← e1, val_append, e2]
  have e3 : (l.take i).length = i := by rw [List.length_take]; omega
  rw [e3]; rfl
theorem cmp_at {a b : List Nat} (ha : ∀ x ∈ a, x < B) {i : Nat} (hi : i < a.length) (hb : i < b.length) (hd : a.drop (i + 1) = b.drop (i + 1)) (h : a.getD i 0 < b.getD i 0) : val a < val b := by
  rw [split_at a i hi, split_at b i hb, hd]
  have h1 : val (a.take i) < B ^ i := by
    have := val_lt (a.take i) (fun x hx => ha x (List.mem_of_mem_take hx))
    rwa [List.length_take, Nat.min_eq_left (by omega)] at this
  generalize val (List.drop (i + 1) b) = t
  have h2 : B ^ i * (a.getD i 0 + 1 + B * t) ≤ B ^ i * (b.getD i 0 + B * t) := Nat.mul_le_mul_left _ (by omega)
  have h3 : B ^ i * (a.getD i 0 + 1 + B * t) = B ^ i * (a.getD i 0 + B * t) + B ^ i := by
    rw [show a.getD i 0 + 1 + B * t = (a.getD i 0 + B * t) + 1 from by omega, Nat.mul_add, Nat.mul_one]
  omega
theorem drop_eq_step {a b : List Nat} {i : Nat} (ha : i < a.length) (hb : i < b.length) (hd : a.drop (i + 1) = b.drop (i + 1)) (h : a.getD i 0 = b.getD i 0) : a.drop i = b.drop i := by
  rw [List.drop_eq_getElem_cons ha, List.drop_eq_getElem_cons hb, hd]
  simp only [List.getD_eq_getElem?_getD, List.getElem?_eq_getElem ha, List.getElem?_eq_getElem hb, Option.getD_some] at h
  rw [h]
end Go.Proofs.YtihpkiopeagogaaDoor.Nats
