/-
  Bridges: sums of down-bearings, plain numbers.
-/
import Derived.Test.YtnfpmaenikhoaaaBea
namespace Go.Proofs.Ytnfpmaenikhoaaa
open Go.RowKit
structure Br where
  (f b k a h : Int)
def Br.ok (x : Br) : Bool := okB x.f x.b x.k x.a x.h
def Br.st (x : Br) : Int := stN x.f x.b x.k x.a x.h
def Br.dn (x : Br) : Int := x.a * x.h
def okT (t : Int × Int) : Bool := decide (0 ≤ t.1 ∧ t.1 ≤ t.2 ∧ t.2 ≤ 10000000)
theorem okT_bd {t : Int × Int} (h : okT t = true) : 0 ≤ t.1 ∧ t.1 ≤ t.2 ∧ t.2 ≤ 10000000 := by
  unfold okT at h; simpa using h
theorem Br.bd {x : Br} (h : x.ok = true) : (-12000000000 ≤ x.st ∧ x.st ≤ 12000000000) ∧ 1 ≤ x.dn ∧ x.dn ≤ 90000000000 := by
  obtain ⟨⟨m0, m1⟩, ⟨m2, m3⟩, m4, m5⟩ := stN_bd h
  unfold Br.st Br.dn stN
  omega
theorem Br.tbd {x : Br} {t : Int × Int} (h : x.ok = true) (ht : okT t = true) : (-120000000000000000 ≤ t.1 * x.st ∧ t.1 * x.st ≤ 120000000000000000) ∧ (-120000000000000000 ≤ t.2 * x.st ∧ t.2 * x.st ≤ 120000000000000000) := by
  obtain ⟨⟨s0, s1⟩, -⟩ := Br.bd h
  obtain ⟨t0, t1, t2⟩ := okT_bd ht
  have p := mul_bd (show -10000000 ≤ t.1 by omega) (show t.1 ≤ 10000000 by omega) s0 s1
  have q := mul_bd (show -10000000 ≤ t.2 by omega) (show t.2 ≤ 10000000 by omega) s0 s1
  omega
/-- the least and the greatest down-bearing of a string, rounded outward -/
def bLo (x : Br) (t : Int × Int) : Int := dn (min (t.1 * x.st) (t.2 * x.st)) x.dn
def bHi (x : Br) (t : Int × Int) : Int := up (max (t.1 * x.st) (t.2 * x.st)) x.dn
theorem b_bd {x : Br} {t : Int × Int} (h : x.ok = true) (ht : okT t = true) : (-120000000000000000 ≤ bLo x t ∧ bLo x t ≤ 120000000000000000) ∧ (-120000000000000000 ≤ bHi x t ∧ bHi x t ≤ 120000000000000000) := by
  obtain ⟨-, d0, d1⟩ := Br.bd h
  obtain ⟨⟨p0, p1⟩, q0, q1⟩ := Br.tbd h ht
  refine ⟨dn_bd d0 (by omega) (by omega) (by omega), ?_⟩
  exact up_bd d0 (by omega) (by omega) (by omega)
def sB (g : Br → Int × Int → Int) (l : List Br) (T : List (Int × Int)) : Nat → Int
  | 0 => 0
  | k + 1 => sB g l T k + g (l.getD k ⟨0, 0, 0, 0, 0⟩) (T.getD k (0, 0))
theorem sB_go {g : Br → Int × Int → Int} {l : List Br} {T : List (Int × Int)} {k : Nat} (hk : k < l.length) (hk' : k < T.length) {x : Br} (hx : l[k] = x) {t : Int × Int} (ht : T[k] = t) : sB g l T (k + 1) = sB g l T k + g x t := by
  rw [show sB g l T (k + 1) = sB g l T k + g (l.getD k ⟨0, 0, 0, 0, 0⟩) (T.getD k (0, 0)) from rfl, List.getD_eq_getElem?_getD, List.getD_eq_getElem?_getD, List.getElem?_eq_getElem hk, List.getElem?_eq_getElem hk', hx, ht]; rfl
/-- the first error: 0 if there is none -/
def brE (l : List Br) (T : List (Int × Int)) : Nat → Int
  | 0 => 0
  | k + 1 => if brE l T k ≠ 0 then brE l T k else if (l.getD k ⟨0, 0, 0, 0, 0⟩).ok && okT (T.getD k (0, 0)) then 0 else 2
theorem brE_go {l : List Br} {T : List (Int × Int)} {k : Nat} (hk : k < l.length) (hk' : k < T.length) (h0 : brE l T k = 0) : brE l T (k + 1) = if (l[k]).ok && okT T[k] then 0 else 2 := by
  rw [show brE l T (k + 1) = if brE l T k ≠ 0 then brE l T k else if (l.getD k ⟨0, 0, 0, 0, 0⟩).ok && okT (T.getD k (0, 0)) then 0 else 2 from rfl, List.getD_eq_getElem?_getD, List.getD_eq_getElem?_getD, List.getElem?_eq_getElem hk, List.getElem?_eq_getElem hk', if_neg (by simpa using h0)]; rfl
theorem brE_up {l : List Br} {T : List (Int × Int)} {k : Nat} (h : brE l T k ≠ 0) : ∀ n, brE l T (k + n) = brE l T k
  | 0 => rfl
  | n + 1 => by
    have ih := brE_up h n
    rw [show brE l T (k + (n + 1)) = if brE l T (k + n) ≠ 0 then brE l T (k + n) else if (l.getD (k + n) ⟨0, 0, 0, 0, 0⟩).ok && okT (T.getD (k + n) (0, 0)) then 0 else 2 from rfl, if_pos (by rw [ih]; exact h), ih]
theorem brE_ok {l : List Br} {T : List (Int × Int)} : ∀ {k : Nat}, brE l T k = 0 → ∀ j (_ : j < k) (h : j < l.length) (h' : j < T.length), (l[j]).ok = true ∧ okT T[j] = true
  | 0, _, j, hj, _, _ => by omega
  | k + 1, h, j, hj, h1, h2 => by
    have h0 : brE l T k = 0 := by
      rcases Decidable.em (brE l T k = 0) with h' | h'
      · exact h'
      · have := brE_up h' 1; rw [h] at this; omega
    rcases Nat.lt_or_ge j k with hlt | hge
    · exact brE_ok h0 j hlt h1 h2
    · obtain rfl : j = k := by omega
      have := brE_go h1 h2 h0
      rw [h] at this
      split at this
      · rename_i hh; simpa using hh
      · omega
theorem sB_bd {g : Br → Int × Int → Int} {l : List Br} {T : List (Int × Int)} {M : Int} : ∀ {k : Nat}, k ≤ l.length → k ≤ T.length → brE l T k = 0 → (∀ x t, x.ok = true → okT t = true → -M ≤ g x t ∧ g x t ≤ M) → 0 ≤ M → -(M * k) ≤ sB g l T k ∧ sB g l T k ≤ M * k
  | 0, _, _, _, _, _ => by simp [sB]
  | k + 1, h1, h2, he, hg, hM => by
    have h0 : brE l T k = 0 := by
      rcases Decidable.em (brE l T k = 0) with h' | h'
      · exact h'
      · have := brE_up h' 1; rw [he] at this; omega
    have ih := sB_bd (k := k) (by omega) (by omega) h0 hg hM
    obtain ⟨o1, o2⟩ := brE_ok he k (by omega) (by omega) (by omega)
    have := hg _ _ o1 o2
    rw [sB_go (show k < l.length by omega) (show k < T.length by omega) rfl rfl]
    push_cast
    rw [Int.mul_add, Int.mul_one]
    omega
theorem redq {n d : Int} (hd : 1 ≤ d) (t : Int) : dn (t * redN n d) (redD n d) = dn (t * n) d ∧ up (t * redN n d) (redD n d) = up (t * n) d := by
  obtain ⟨hg, e1, e2, e3⟩ := red_back (n := n) hd
  generalize redN n d = N at *
  generalize redD n d = D at *
  generalize gcdI n d = g at *
  have a1 : t * n = g * (t * N) := by rw [e1, ← Int.mul_assoc, Int.mul_comm t, Int.mul_assoc]
  have k : ∀ m, dn (g * m) (g * D) = dn m D := fun m => Int.mul_ediv_mul_of_pos _ _ hg
  refine ⟨by rw [a1, e2, k], ?_⟩
  unfold up
  rw [a1, e2, show -(g * (t * N)) = g * (-(t * N)) by rw [Int.mul_neg], k]
theorem dn_mono {a b d : Int} (hd : 1 ≤ d) (h : a ≤ b) : dn a d ≤ dn b d := Int.ediv_le_ediv (by omega) h
theorem up_mono {a b d : Int} (hd : 1 ≤ d) (h : a ≤ b) : up a d ≤ up b d := by
  unfold up; have := dn_mono hd (show -b ≤ -a by omega); omega
/-- what any tensions give lies between -/
def cLo (x : Br) (t : Int × Int) : Int := dn (t.1 * x.st) x.dn
def cHi (x : Br) (t : Int × Int) : Int := up (t.1 * x.st) x.dn
theorem c_bd {x : Br} {t : Int × Int} (h : x.ok = true) (ht : okT t = true) : (-120000000000000000 ≤ cLo x t ∧ cLo x t ≤ 120000000000000000) ∧ (-120000000000000000 ≤ cHi x t ∧ cHi x t ≤ 120000000000000000) := by
  obtain ⟨-, d0, d1⟩ := Br.bd h
  obtain ⟨⟨p0, p1⟩, -⟩ := Br.tbd h ht
  exact ⟨dn_bd d0 (by omega) (by omega) (by omega), up_bd d0 (by omega) (by omega) (by omega)⟩
theorem c_in {x : Br} {t : Int × Int} (h : x.ok = true) : bLo x t ≤ cLo x t ∧ cHi x t ≤ bHi x t := by
  obtain ⟨-, d0, d1⟩ := Br.bd h
  exact ⟨dn_mono d0 (by omega), up_mono d0 (by omega)⟩
theorem brE_part {l : List Br} {T : List (Int × Int)} {n : Nat} (h : brE l T n = 0) {k : Nat} (hk : k ≤ n) : brE l T k = 0 := by
  rcases Decidable.em (brE l T k = 0) with h' | h'
  · exact h'
  · have := brE_up h' (n - k)
    rw [show k + (n - k) = n by omega, h] at this; omega
theorem sB_le {g g' : Br → Int × Int → Int} {l : List Br} {T : List (Int × Int)} : ∀ {k : Nat}, k ≤ l.length → k ≤ T.length → brE l T k = 0 → (∀ x t, x.ok = true → g x t ≤ g' x t) → sB g l T k ≤ sB g' l T k
  | 0, _, _, _, _ => by simp [sB]
  | k + 1, h1, h2, he, hg => by
    have ih := sB_le (k := k) (by omega) (by omega) (brE_part he (by omega)) hg
    obtain ⟨o1, o2⟩ := brE_ok he k (by omega) (by omega) (by omega)
    have := hg _ (T[k]'(by omega)) o1
    rw [sB_go (show k < l.length by omega) (show k < T.length by omega) rfl rfl, sB_go (show k < l.length by omega) (show k < T.length by omega) rfl rfl]
    omega
theorem brE_two (l : List Br) (T : List (Int × Int)) : ∀ k, brE l T k = 0 ∨ brE l T k = 2
  | 0 => .inl rfl
  | k + 1 => by
    unfold brE
    split
    · exact brE_two l T k
    · split
      · exact .inl rfl
      · exact .inr rfl
theorem b_neg {x : Br} {t : Int × Int} (h : x.ok = true) (ht : okT t = true) (hn : redN x.st x.dn < 0) : dn (t.2 * redN x.st x.dn) (redD x.st x.dn) = bLo x t ∧ up (t.1 * redN x.st x.dn) (redD x.st x.dn) = bHi x t := by
  obtain ⟨-, d0, -⟩ := Br.bd h
  obtain ⟨-, t1, -⟩ := okT_bd ht
  obtain ⟨hg, e1, -, -⟩ := red_back (n := x.st) d0
  have hs : x.st ≤ 0 := by
    have := Int.mul_nonpos_of_nonneg_of_nonpos (show 0 ≤ gcdI x.st x.dn by omega) (show redN x.st x.dn ≤ 0 by omega)
    omega
  have hm : t.2 * x.st ≤ t.1 * x.st := Int.mul_le_mul_of_nonpos_right t1 hs
  rw [(redq d0 _).1, (redq d0 _).2]
  unfold bLo bHi
  rw [show min (t.1 * x.st) (t.2 * x.st) = t.2 * x.st by omega, show max (t.1 * x.st) (t.2 * x.st) = t.1 * x.st by omega]
  exact ⟨rfl, rfl⟩
theorem b_pos {x : Br} {t : Int × Int} (h : x.ok = true) (ht : okT t = true) (hn : ¬ redN x.st x.dn < 0) : dn (t.1 * redN x.st x.dn) (redD x.st x.dn) = bLo x t ∧ up (t.2 * redN x.st x.dn) (redD x.st x.dn) = bHi x t := by
  obtain ⟨-, d0, -⟩ := Br.bd h
  obtain ⟨-, t1, -⟩ := okT_bd ht
  obtain ⟨hg, e1, -, -⟩ := red_back (n := x.st) d0
  have hs : 0 ≤ x.st := by
    have := Int.mul_nonneg (show 0 ≤ gcdI x.st x.dn by omega) (show 0 ≤ redN x.st x.dn by omega)
    omega
  have hm : t.1 * x.st ≤ t.2 * x.st := Int.mul_le_mul_of_nonneg_right t1 hs
  rw [(redq d0 _).1, (redq d0 _).2]
  unfold bLo bHi
  rw [show min (t.1 * x.st) (t.2 * x.st) = t.1 * x.st by omega, show max (t.1 * x.st) (t.2 * x.st) = t.2 * x.st by omega]
  exact ⟨rfl, rfl⟩
theorem redND_bd {x : Br} (h : x.ok = true) : (-12000000000 ≤ redN x.st x.dn ∧ redN x.st x.dn ≤ 12000000000) ∧ 1 ≤ redD x.st x.dn ∧ redD x.st x.dn ≤ 90000000000 := by
  obtain ⟨⟨s0, s1⟩, d0, d1⟩ := Br.bd h
  obtain ⟨a, b, c⟩ := red_size (n := x.st) d0 s0 s1
  obtain ⟨-, -, -, e⟩ := red_back (n := x.st) d0
  omega
end Go.Proofs.Ytnfpmaenikhoaaa
