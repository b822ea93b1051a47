/-
  The walks of the natural numbers in words of 64 bits: multiplied, withPower, compareNaturals: each returns what the plain lemmas of Nats say, writes into words of its own alone, and leaves older memory as it was.
-/
import Derived.Test.YtihpkiopeagogaaDoorBase
import Derived.Test.YtihpkiopeagogaaDoorNats
import Derived.Test.YtihpkiopeagogaaDoorShelf
import Derived.Laws.Externs
namespace Go.Proofs.YtihpkiopeagogaaDoor
open Go.RowKit

def wd (x : Nat) : Value := .int .u64 (x : Int)
theorem info111 : (Tryd.prog.info? 55).map (fun i => (i.zero, i.size, i.bytes)) = some (some (.int .u64 0), 1, 8) := by kernel_rfl
def MulP (x y : Nat) (e : Ending) : Prop := ∃ hi lo : Nat, hi < 18446744073709551616 ∧ lo < 18446744073709551616 ∧ hi * 18446744073709551616 + lo = x * y ∧ e = .returned (.tuple #[.int .u64 (hi : Int), .int .u64 (lo : Int)])
theorem mul_any (x y : Nat) (hx : x < 18446744073709551616) (hy : y < 18446744073709551616) (w : World) :
    Calls Tryd.prog 27 #[.int .u64 x, .int .u64 y] w fun e w' => MulP x y e ∧ w' = w := by
  refine (Tryd.bits_Mul64 x y hx hy w).mono ?_
  rintro e w' ⟨rfl, rfl⟩
  refine ⟨⟨x * y / 18446744073709551616, x * y % 18446744073709551616, ?_, Nat.mod_lt _ (by decide), ?_, rfl⟩, rfl⟩
  · rw [Nat.div_lt_iff_lt_mul (by decide)]
    exact Nat.mul_lt_mul'' hx hy
  · have := Nat.div_add_mod (x * y) 18446744073709551616
    rw [Nat.mul_comm] at this; exact this
theorem add_run (a c : Nat) (ha : a < 18446744073709551616) (hc : c < 18446744073709551616) :
    ∃ s o : Nat, s < 18446744073709551616 ∧ o ≤ 1 ∧ a + c = o * 18446744073709551616 + s ∧
      ∀ u : World, (callFunc 33 #[.int .u64 (a : Int), .int .u64 (c : Int), .int .u64 0]).run Tryd.prog u = .ok (.value (.tuple #[.int .u64 (s : Int), .int .u64 (o : Int)])) u := by
  refine ⟨(a + c) % 18446744073709551616, (a + c) / 18446744073709551616, Nat.mod_lt _ (by decide), by omega, by omega, fun u => ?_⟩
  rw [run_callFunc_extern Tryd.func33 (by kernel_rfl) (by kernel_rfl) (by kernel_rfl) (e := add64Entry) (by kernel_rfl), run_add64 (a : Int) (c : Int) 0 (by omega) (by omega) (by omega) (by omega)]
  simp

def MultRel (base g cap : Nat) (xs : List Nat) (y : Nat) (w : World) (vc vi : Value) (wr : World) : Prop :=
  ∃ k : Nat, k ≤ xs.length ∧ vi = .int .i64 (k : Int) ∧ vc = .int .u64 ((Nats.st xs y k).2 : Int) ∧
    wr.ownsRow base 55 1 (.slice (some ⟨g, 0, none⟩) xs.length cap) xs.length ((Nats.st xs y k).1.map wd) ∧ Below base w wr
def MultPost (base : Nat) (xs : List Nat) (y : Nat) (w : World) (e : Ending) (w' : World) : Prop :=
  ∃ v', e = .returned v' ∧ w'.ownsRow base 55 1 v' (Nats.mulW xs y).length ((Nats.mulW xs y).map wd) ∧ Below base w w'

theorem own_base {w : World} {base e size : Nat} {g n cap : Nat} {xs : List Value} (h : w.ownsRow base e size (.slice (some ⟨g, 0, none⟩) n cap) n xs) : base ≤ g ∧ g < w.heap.size := by
  obtain ⟨_, h2 | ⟨g', cap', cur, hv, hg, hh, _⟩⟩ := h
  · simp at h2
  · simp at hv; obtain ⟨rfl, rfl⟩ := hv
    exact ⟨hg, by
      rcases Nat.lt_or_ge g w.heap.size with h | h
      · exact h
      · rw [Array.getElem?_eq_none h] at hh; cases hh⟩

set_option maxHeartbeats 400000 in
theorem mult_any (base g cap : Nat) (xs : List Nat) (y : Nat) (w : World) (hown : w.ownsRow base 55 1 (.slice (some ⟨g, 0, none⟩) xs.length cap) xs.length (xs.map wd))
    (hlt : ∀ x ∈ xs, x < Nats.B) (hy : y < 18446744073709551616) (hlen : xs.length ≤ 1099511627776) (hbase : base ≤ w.heap.size) :
    Calls Tryd.prog 28 #[.slice (some ⟨g, 0, none⟩) xs.length cap, .int .u64 (y : Int)] w (MultPost base xs y w) := by
  obtain ⟨i0, hi, hz0, hz1, hz2⟩ := info_parts info111
  have HLT := Lib.hid hlt; clear hlt
  go_enter Tryd.func28, Tryd.ntmps28
  go_wp2
  go_loopw [5, 14] (MultRel base g cap xs y w) (fun _ i _ => xs.length - (intOf i).toNat)
  case atStart => exact ⟨0, Nat.zero_le _, rfl, rfl, hown, Below.refl _ _⟩
  case round =>
    obtain ⟨k, hk, rfl, rfl, hor, hb⟩ := hrel
    have hls := Nats.st_lt xs y hy HLT.out k
    have hcl : (Nats.st xs y k).2 < 18446744073709551616 := hls.1
    obtain ⟨c, hc⟩ : ∃ c, (Nats.st xs y k).2 = c := ⟨_, rfl⟩
    rw [hc] at hcl ⊢
    have HC := Lib.hid hc; clear hc
    by_cases hkl : k < xs.length
    · have hcell := hor.cellAt k (by omega)
      have hfr := hor.frozenAt k
      obtain ⟨x, hx⟩ : ∃ x, (Nats.st xs y k).1.getD k 0 = x := ⟨_, rfl⟩
      have hsl := Nats.st_len xs y k
      have hxl : x < 18446744073709551616 := by
        rw [← hx, List.getD_eq_getElem?_getD, List.getElem?_eq_getElem (by omega)]
        exact hls.2 _ (List.getElem_mem _)
      have hcell' : wr.cell? ⟨g, k, none⟩ = some (.int .u64 (x : Int)) := by
        rw [hcell, List.getElem?_map, List.getElem?_eq_getElem (by omega), ← hx, List.getD_eq_getElem?_getD, List.getElem?_eq_getElem (by omega)]; rfl
      have HX := Lib.hid hx; have HSL := Lib.hid hsl; have HLS := Lib.hid hls; have HOR := Lib.hid hor
      clear hx hsl hls hcell hor
      go_wp2_with fail
      refine (mul_any x y hxl hy _).mono ?_
      rintro e w' ⟨⟨hi, lo, h1, h2, h3, rfl⟩, rfl⟩
      obtain ⟨s, o, hs, ho, hso, hadd⟩ := add_run lo c h2 hcl
      have hq : (x * y + c) / 18446744073709551616 = hi + o ∧ (x * y + c) % 18446744073709551616 = s := by omega
      have hho : hi + o < 18446744073709551616 := by
        have := Nats.carry_lt x y c hxl hy hcl
        have e : (x * y + c) / Nats.B = hi + o := hq.1
        rw [e] at this; exact this
      have HQ := Lib.hid hq; have H3 := Lib.hid h3
      clear hq h3 hso
      go_wp2
      have hown2 := (HOR.out.stored k (wd s))
      go_roundw
      case rel =>
        have e1 := HQ.out
        refine ⟨k + 1, by omega, by go_num, ?_, ?_, hb.setCell (own_base HOR.out).1 _⟩
        · simp only [Nats.st, HC.out, HX.out, Nats.B]
          rw [e1.1]; simp
        · have e2 : (Nats.st xs y (k + 1)).1 = (Nats.st xs y k).1.set k s := by
            simp only [Nats.st, HC.out, HX.out, Nats.B]; rw [e1.2]
          rw [e2, List.map_set]
          exact hown2.1
      case measure => simp [intOf]; omega
    · obtain rfl : k = xs.length := by omega
      have hsl := Nats.st_len xs y xs.length
      by_cases hz : c = 0
      · subst hz
        have HOR := Lib.hid hor; have HSL := Lib.hid hsl; have HLS := Lib.hid hls
        clear hor hsl hls
        go_wp2
        go_ret
        refine ⟨_, rfl, ?_, hb⟩
        have e : Nats.mulW xs y = (Nats.st xs y xs.length).1 := by unfold Nats.mulW; rw [if_pos HC.out]
        rw [e, HSL.out]
        exact HOR.out
      · have hz' : ((c : Int) != 0) = true := by simp; omega
        have hor' : wr.ownsRow base 55 1 (.slice (some ⟨g, 0, none⟩) xs.length cap) xs.length ((Nats.st xs y xs.length).1.map wd) := hor
        have hgb := own_base hor
        have hbs := hb.size
        have HSL := Lib.hid hsl; have HLS := Lib.hid hls
        clear hsl hls hor
        go_wp2_with (at_builtin; refine wpList_append_own _ rfl _ _ 48 rfl base 55 i0 (.int .u64 0) 1 8 Tryd.underlying48 hi hz0 hz1 hz2 rfl (by decide) _ _ _ rfl (hor'.alloc _) ⟨wr.heap.size, 0, none⟩ 1 1 [.int .u64 (c : Int)] rfl rfl ?c1 ?c2 ?c3 ?c4 ?c5 ?_)
        case c1 =>
          intro j u hj
          match j, hj with
          | 0, hj => simp at hj; subst hj; simp [Addr.add]
        case c2 => intro u hu; simp at hu; subst hu; rfl
        case c3 => unfold maxLen; omega
        case c4 => omega
        case c5 => simp; omega
        intro v' w1 hown' hgrow _
        go_wp2
        go_ret
        have e : Nats.mulW xs y = (Nats.st xs y xs.length).1 ++ [c] := by unfold Nats.mulW; rw [if_neg (by rw [HC.out]; exact hz), HC.out]
        refine ⟨v', rfl, ?_, (hb.alloc (by omega) _).grown hgrow (by simp; omega) (fun k hk => ?_)⟩
        · rw [e, List.map_append, List.length_append, HSL.out]; exact hown'
        · simp [Value.ownBlock] at hk; omega

theorem own_shape {w : World} {base e size n : Nat} {v : Value} {xs : List Value} (h : w.ownsRow base e size v n xs) (hn : 0 < n) : ∃ g cap, v = .slice (some ⟨g, 0, none⟩) n cap ∧ n ≤ cap ∧ cap ≤ maxLen := by
  obtain ⟨_, ⟨_, h0⟩ | ⟨g', cap', cur, hv, _, _, h1, h2, _⟩⟩ := h
  · omega
  · exact ⟨g', cap', hv, h1, h2⟩
theorem own_base_mono {w : World} {base base' e size n : Nat} {v : Value} {xs : List Value} (h : w.ownsRow base e size v n xs) (hb : base' ≤ base) : w.ownsRow base' e size v n xs := by
  obtain ⟨h0, h1 | ⟨g', cap', cur, hv, h1, h2⟩⟩ := h
  · exact ⟨h0, .inl h1⟩
  · exact ⟨h0, .inr ⟨g', cap', cur, hv, by omega, h2⟩⟩
/-- what is owned stays owned while nothing below its block's number and beyond turns -/
theorem own_below {w w' : World} {base e size : Nat} {g n cap B : Nat} {xs : List Value} (h : w.ownsRow base e size (.slice (some ⟨g, 0, none⟩) n cap) n xs) (hb : Below B w w') (hg : g < B) : w'.ownsRow base e size (.slice (some ⟨g, 0, none⟩) n cap) n xs := by
  obtain ⟨h0, h1 | ⟨g', cap', cur, hv, h1, hh, h2⟩⟩ := h
  · exact ⟨h0, .inl h1⟩
  · simp at hv; obtain ⟨rfl, rfl⟩ := hv
    exact ⟨h0, .inr ⟨g, cap, cur, rfl, h1, by rw [hb.block g hg]; exact hh, h2⟩⟩

-- slices.Clone
def ClonePost (xs : List Nat) (w : World) (e : Ending) (w' : World) : Prop :=
  ∃ v', e = .returned v' ∧ w'.ownsRow w.heap.size 55 1 v' xs.length (xs.map wd) ∧ Below w.heap.size w w'
set_option maxHeartbeats 400000 in
theorem clone_any (base g cap : Nat) (xs : List Nat) (w : World) (hown : w.ownsRow base 55 1 (.slice (some ⟨g, 0, none⟩) xs.length cap) xs.length (xs.map wd))
    (hlen : xs.length ≤ 1099511627776) :
    Calls Tryd.prog 26 #[.slice (some ⟨g, 0, none⟩) xs.length cap] w (ClonePost xs w) := by
  obtain ⟨i0, hi, hz0, hz1, hz2⟩ := info_parts info111
  have hgb := own_base hown
  have qT : ∀ (w : World) (a : Option Addr) (n c n' c' : Nat), (binOp .eql 48 (.slice a n c) (.slice none n' c')).run Tryd.prog w = .ok (.bool a.isNone) w := fun w a n c n' c' => Lib.run_eql_slice_nil w _ _ a n c n' c' Tryd.underlying48
  have hl := World.ownsRow_lit (e := 55) (size := 1) (base := w.heap.size) w #[] 0 (Nat.le_refl _) (by decide) (by simp)
  have hnews : ∀ (j : Nat) u, (xs.map wd)[j]? = some u → (w.alloc (.cells #[] 55)).cell? ((⟨g, 0, none⟩ : Addr).add j) = some u := by
    intro j u hj
    have hjl : j < xs.length := by
      rcases Nat.lt_or_ge j xs.length with h | h
      · exact h
      · rw [List.getElem?_eq_none (by simpa using h)] at hj; cases hj
    have h1 := hown.cellAt j (by omega)
    have e : (⟨g, 0, none⟩ : Addr).add j = ⟨g, j, none⟩ := by simp [Addr.add]; omega
    rw [e, World.cell?_alloc_past _ _ _ hgb.2, h1, hj]
  have H1 : Hid _ := hl
  have H2 := Lib.hid hnews
  have H3 := Lib.hid hown
  clear hl hnews hown
  go_enter Tryd.func26, Tryd.ntmps26
  go_wp2_with (at_builtin; refine wpList_append_own _ rfl _ _ 48 rfl w.heap.size 55 i0 (.int .u64 0) 1 8 Tryd.underlying48 hi hz0 hz1 hz2 rfl (by decide) _ _ _ rfl H1 ⟨g, 0, none⟩ xs.length cap (xs.map wd) rfl (by simp) H2.out ?c2 ?c3 ?c4 (by simp) ?_)
  case c2 => intro x _; rfl
  case c3 => unfold maxLen; omega
  case c4 => omega
  intro v' w1 hown' hgrow _
  go_wp2
  go_ret
  refine ⟨v', rfl, by simpa using hown', ((Below.refl _ _).alloc (Nat.le_refl _) _).grown hgrow (by simp) (fun k hk => ?_)⟩
  simp [Value.ownBlock] at hk; omega

end Go.Proofs.YtihpkiopeagogaaDoor
