/-
  The law PlateBars.
-/
import Derived.Test.YtahfliboanphkaaLby
import Derived.Test.YtahfliboanphkaaLbz
import Derived.Test.YtahfliboanphkaaBci
import Derived.Test.YtahfliboanphkaaBre
import Derived.Test.YtahfliboanphkaaBfr
import Derived.Test.YtahfliboanphkaaRdw
import Derived.Test.YtahfliboanphkaaBm2
import Derived.Test.YtahfliboanphkaaGir
import Derived.Test.YtahfliboanphkaaGsm
import Derived.Test.YtahfliboanphkaaAwk3
import Derived.StillTailTactics
import Derived.Deep.DeepCutAuto
namespace Go.Proofs.Ytahfliboanphkaa
open Go.RowKit
attribute [local go_sem ↓] Go.wp_at_zero Go.wp_at_succ
theorem lawBarsA (l : List Int) (a : Option Addr) (cap : Nat) (L : List (Int × Int)) (aL : Option Addr) (capL : Nat) (w : World) (hp : InAt w a l) (hll : l.length ≤ 9223372036854775807) (hL : LdAt w aL L) (hlL : L.length ≤ 9223372036854775807) (_ : ∀ y ∈ L, (-9223372036854775808 ≤ y.1 ∧ y.1 ≤ 9223372036854775807) ∧ (-9223372036854775808 ≤ y.2 ∧ y.2 ≤ 9223372036854775807)) :
    Calls Try.prog 5 #[.slice a l.length cap, .slice aL L.length capL] w fun e w' => e = .returned (.bool true) ∧ Below w.heap.size w w' := by
  by_cases h25 : (25 : Int) < (l.length : Int)
  · exact bars_A1 l a cap L aL capL w h25
  · cases hsm : smL L
    · exact bars_A2 l a cap L aL capL w h25 hlL hsm
    · by_cases hb : brE l = 0
      · have hB := okB_of hb
        obtain ⟨m, hm⟩ : ∃ m, l.length = m + 1 := ⟨l.length - 1, by have := hB.1; omega⟩
        rcases hp with h | ⟨b, o, rfl, hbl, hc⟩
        · rw [h] at hm; simp at hm
        · rw [hm]
          by_cases hk : chkL (l.getD 0 0) (l.getD m 0) L = 0
          · exact bars_D l m b o cap hm hb L aL capL w hlL hsm hbl hc hL hk
          · exact bars_C _ l m b o cap hm hb L aL capL w hlL hsm hbl hc hL rfl hk
      · exact bars_B _ l a cap L aL capL w h25 hlL hsm hp hL rfl hb
end Go.Proofs.Ytahfliboanphkaa
