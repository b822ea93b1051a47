/-
  Plain lemmas on whole numbers in digits to the base 10000: their value, what one row of a product leaves, canonical lists, and how two of them compare. No program, no condition but those that stand in the lemmas.
-/
namespace Go.Proofs.YtihpkiopeagogaaDoor.Dg

def B : Nat := 10000
theorem B_pos : 0 < B := by decide
def val : List Nat → Nat
  | [] => 0
  | x :: l => x + B * val l
theorem val_append (l r : List Nat) : val (l ++ r) = val l + B ^ l.length * val r := by
  induction l with
  | nil => simp [val]
  | cons x l ih =>
    simp only [List.cons_append, val, ih, List.length_cons, Nat.pow_succ, Nat.mul_add]
    rw [Nat.mul_assoc (B ^ l.length) B, Nat.mul_left_comm (B ^ l.length) B]
    omega
theorem val_lt (l : List Nat) (h : ∀ x ∈ l, x < B) : val l < B ^ l.length := by
  induction l with
  | nil => simp [val]
  | cons x l ih =>
    have h1 := ih (fun y hy => h y (List.mem_cons_of_mem _ hy))
    have h2 := h x (List.mem_cons_self ..)
    simp only [val, List.length_cons, Nat.pow_succ]
    have h3 : B * (val l + 1) ≤ B * B ^ l.length := Nat.mul_le_mul_left _ h1
    rw [Nat.mul_add] at h3
    rw [Nat.mul_comm (B ^ l.length) B]
    omega

theorem take_succ_getD (l : List Nat) (k : Nat) (hk : k < l.length) : l.take (k + 1) = l.take k ++ [l.getD k 0] := by
  rw [List.take_succ_eq_append_getElem hk, List.getD_eq_getElem?_getD, List.getElem?_eq_getElem hk]; rfl

/-- digits without a leading 0 -/
structure Can (l : List Nat) : Prop where
  lt : ∀ x ∈ l, x < B
  le : 0 < l.length → B ^ (l.length - 1) ≤ val l
theorem can_nil : Can [] := ⟨by simp, by simp⟩
theorem can_one : Can [1] := ⟨by simp [B], by simp [val]⟩
theorem val_one : val [1] = 1 := by simp [val]
theorem getD_lt {l : List Nat} (h : ∀ x ∈ l, x < B) (j : Nat) : l.getD j 0 < B := by
  rw [List.getD_eq_getElem?_getD]
  by_cases hk : j < l.length
  · rw [List.getElem?_eq_getElem hk]; exact h _ (List.getElem_mem _)
  · rw [List.getElem?_eq_none (by omega)]; exact B_pos
theorem val_set (l : List Nat) (j v : Nat) (h : j < l.length) : val (l.set j v) + B ^ j * l.getD j 0 = val l + B ^ j * v := by
  induction l generalizing j with
  | nil => simp at h
  | cons x l ih =>
    cases j with
    | zero => simp [val]; omega
    | succ j =>
      have h1 := ih j (by simpa using h)
      have h2 : B * (val (l.set j v) + B ^ j * l.getD j 0) = B * (val l + B ^ j * v) := by rw [h1]
      rw [Nat.mul_add, Nat.mul_add] at h2
      simp only [List.set_cons_succ, val, List.getD_cons_succ, Nat.pow_succ]
      rw [Nat.mul_comm (B ^ j) B, Nat.mul_assoc, Nat.mul_assoc]; omega
theorem val_take_succ (l : List Nat) (k : Nat) (hk : k < l.length) : val (l.take (k + 1)) = val (l.take k) + B ^ k * l.getD k 0 := by
  rw [take_succ_getD l k hk, val_append, List.length_take, Nat.min_eq_left (by omega)]; simp [val]
theorem val_zeros (n : Nat) : val (List.replicate n 0) = 0 := by
  induction n with
  | zero => rfl
  | succ n ih => simp [List.replicate_succ, val, ih]

/-- what stands in the row and its carry behind k steps of row i -/
def T (a b : List Nat) (i k : Nat) : Nat := val (a.take i) * val b + B ^ i * (a.getD i 0 * val (b.take k))
theorem T_zero (a b : List Nat) (i : Nat) : T a b i 0 = val (a.take i) * val b := by simp [T, val]
theorem T_step (a b : List Nat) (i k : Nat) (hk : k < b.length) : T a b i (k + 1) = T a b i k + B ^ (i + k) * (a.getD i 0 * b.getD k 0) := by
  unfold T
  rw [val_take_succ b k hk, Nat.mul_add, Nat.mul_add, Nat.pow_add, ← Nat.add_assoc]
  congr 1
  rw [Nat.mul_left_comm (a.getD i 0), Nat.mul_assoc]
theorem T_past (a b : List Nat) (i k : Nat) (hk : b.length ≤ k) : T a b i (k + 1) = T a b i k := by
  unfold T
  rw [List.take_of_length_le (l := b) (i := k + 1) (by omega), List.take_of_length_le (l := b) (i := k) hk]
theorem T_end (a b : List Nat) (i k : Nat) (hi : i < a.length) (hk : b.length ≤ k) : T a b i k = val (a.take (i + 1)) * val b := by
  unfold T
  rw [List.take_of_length_le (l := b) (i := k) hk, val_take_succ a i hi, Nat.add_mul, Nat.mul_assoc]
theorem val_take_le (l : List Nat) (k : Nat) : val (l.take k) ≤ val l := by
  conv => rhs; rw [← List.take_append_drop k l, val_append]
  exact Nat.le_add_right _ _
theorem T_lt (a b : List Nat) (i k : Nat) (ha : ∀ x ∈ a, x < B) (hb : ∀ x ∈ b, x < B) (hi : i < a.length) : T a b i k < B ^ (a.length + b.length) := by
  have h1 : T a b i k ≤ val (a.take (i + 1)) * val b := by
    rw [val_take_succ a i hi, Nat.add_mul, Nat.mul_assoc]
    unfold T
    exact Nat.add_le_add_left (Nat.mul_le_mul_left _ (Nat.mul_le_mul_left _ (val_take_le b k))) _
  have h2 : val (a.take (i + 1)) ≤ val a := val_take_le a _
  have h3 := val_lt a ha
  have h4 := val_lt b hb
  rw [Nat.pow_add]
  exact Nat.lt_of_le_of_lt h1 (Nat.lt_of_le_of_lt (Nat.mul_le_mul_right _ h2) (Nat.mul_lt_mul'' h3 h4))
theorem T_carry {a b : List Nat} {i k c v : Nat} (ha : ∀ x ∈ a, x < B) (hb : ∀ x ∈ b, x < B) (hi : i < a.length) (h : v + B ^ (i + k) * c = T a b i k) (hc : 0 < c) : i + k < a.length + b.length := by
  have h1 := T_lt a b i k ha hb hi
  have h2 : B ^ (i + k) * 1 ≤ B ^ (i + k) * c := Nat.mul_le_mul_left _ hc
  rcases Nat.lt_or_ge (i + k) (a.length + b.length) with h' | h'
  · exact h'
  · have := Nat.pow_le_pow_right B_pos h'; omega
theorem mul_step {out : List Nat} {j c d t : Nat} (hj : j < out.length) (h : val out + B ^ j * c = t) :
    val (out.set j ((out.getD j 0 + c + d) % B)) + B ^ (j + 1) * ((out.getD j 0 + c + d) / B) = t + B ^ j * d := by
  have h1 := val_set out j ((out.getD j 0 + c + d) % B) hj
  have h2 : B ^ j * ((out.getD j 0 + c + d) % B) + B ^ (j + 1) * ((out.getD j 0 + c + d) / B) = B ^ j * (out.getD j 0 + c + d) := by
    rw [Nat.pow_succ, Nat.mul_assoc, ← Nat.mul_add, Nat.mod_add_div]
  rw [Nat.mul_add, Nat.mul_add] at h2
  omega
theorem sum_lt {o c x y : Nat} (ho : o < B) (hc : c < B) (hx : x < B) (hy : y < B) : o + c + x * y < 100000000 ∧ (o + c + x * y) / B < B := by
  have h1 : x * y ≤ 9999 * 9999 := Nat.mul_le_mul (by unfold B at hx; omega) (by unfold B at hy; omega)
  unfold B at *
  omega
theorem mem_set_lt {l : List Nat} {j v : Nat} (h : ∀ x ∈ l, x < B) (hv : v < B) : ∀ x ∈ l.set j v, x < B := by
  intro x hx
  rcases List.mem_or_eq_of_mem_set hx with h' | h'
  · exact h x h'
  · omega
theorem trim_step {l : List Nat} {n : Nat} (hn : n + 1 ≤ l.length) (h : l.getD n 0 = 0) : val (l.take n) = val (l.take (n + 1)) := by
  rw [val_take_succ l n (by omega), h]; simp
theorem can_take {l : List Nat} {n : Nat} (hl : ∀ x ∈ l, x < B) (hn : n ≤ l.length) (h : n = 0 ∨ l.getD (n - 1) 0 ≠ 0) : Can (l.take n) := by
  refine ⟨fun x hx => hl x (List.mem_of_mem_take hx), fun h0 => ?_⟩
  rw [List.length_take, Nat.min_eq_left hn] at *
  obtain ⟨m, rfl⟩ : ∃ m, n = m + 1 := ⟨n - 1, by omega⟩
  have h1 : l.getD m 0 ≠ 0 := by simpa using h
  rw [val_take_succ l m (by omega), Nat.add_sub_cancel]
  have : B ^ m * 1 ≤ B ^ m * l.getD m 0 := Nat.mul_le_mul_left _ (by omega)
  omega

theorem cmp_len {a b : List Nat} (ha : Can a) (hb : Can b) (h : a.length < b.length) : val a < val b := by
  have h1 := val_lt a ha.lt
  have h2 : B ^ a.length ≤ B ^ (b.length - 1) := Nat.pow_le_pow_right B_pos (by omega)
  exact Nat.lt_of_lt_of_le h1 (Nat.le_trans h2 (hb.le (by omega)))
theorem split_at (l : List Nat) (i : Nat) (hi : i < l.length) : val l = val (l.take i) + B ^ i * (l.getD i 0 + B * val (l.drop (i + 1))) := by
  have e1 : l.take i ++ l.drop i = l := List.take_append_drop i l
  have e2 : l.drop i = l.getD i 0 :: l.drop (i + 1) := by
    rw [List.drop_eq_getElem_cons hi, List.getD_eq_getElem?_getD, List.getElem?_eq_getElem hi]; rfl
  conv => lhs; rw [← e1, val_append, e2]
  have e3 : (l.take i).length = i := by rw [List.length_take]; omega
  rw [e3]; rfl
theorem cmp_at {a b : List Nat} (ha : ∀ x ∈ a, x < B) {i : Nat} (hi : i < a.length) (hb : i < b.length) (hd : a.drop (i + 1) = b.drop (i + 1)) (h : a.getD i 0 < b.getD i 0) : val a < val b := by
  rw [split_at a i hi, split_at b i hb, hd]
  have h1 : val (a.take i) < B ^ i := by
    have := val_lt (a.take i) (fun x hx => ha x (List.mem_of_mem_take hx))
    rwa [List.length_take, Nat.min_eq_left (by omega)] at this
  generalize val (List.drop (i + 1) b) = t
  have h2 : B ^ i * (a.getD i 0 + 1 + B * t) ≤ B ^ i * (b.getD i 0 + B * t) := Nat.mul_le_mul_left _ (by omega)
  have h3 : B ^ i * (a.getD i 0 + 1 + B * t) = B ^ i * (a.getD i 0 + B * t) + B ^ i := by
    rw [show a.getD i 0 + 1 + B * t = (a.getD i 0 + B * t) + 1 from by omega, Nat.mul_add, Nat.mul_one]
  omega
theorem drop_eq_step {a b : List Nat} {i : Nat} (ha : i < a.length) (hb : i < b.length) (hd : a.drop (i + 1) = b.drop (i + 1)) (h : a.getD i 0 = b.getD i 0) : a.drop i = b.drop i := by
  rw [List.drop_eq_getElem_cons ha, List.drop_eq_getElem_cons hb, hd]
  simp only [List.getD_eq_getElem?_getD, List.getElem?_eq_getElem ha, List.getElem?_eq_getElem hb, Option.getD_some] at h
  rw [h]
end Go.Proofs.YtihpkiopeagogaaDoor.Dg
