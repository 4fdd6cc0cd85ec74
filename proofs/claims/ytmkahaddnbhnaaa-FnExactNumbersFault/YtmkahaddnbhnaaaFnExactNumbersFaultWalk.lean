/-
  The walk of laws.FnExactNumbersFault: it returns true, and writes nothing that was there.
-/
import Derived.Test.YtmkahaddnbhnaaaNumsWalk
import Derived.Test.YtmkahaddnbhnaaaDevTo
import Derived.Test.YtmkahaddnbhnaaaDevEq
namespace Go.Proofs.Ytmkahaddnbhnaaa.fnExactNumbersFault
open Go.RowKit
set_option linter.unusedVariables false

set_option maxHeartbeats 1000000 in
theorem walk (a : Option Addr) (c : Nat) (l : List Int) (w : World) (h : IntsAt w a l) (hn : l.length ≤ maxLen) :
    Calls Try.prog 6 #[.slice a l.length c] w fun r w' => r = .returned (.bool true) ∧ Below w.heap.size w w' := by
  unfold maxLen at hn
  by_cases hbig : 1048576 < (l.length : Int)
  · go_enter Try.func6, Try.ntmps6
    go_wp2
    go_ret
    exact ⟨rfl, Below.refl _ _⟩
  have hl : l.length ≤ 1048576 := by omega
  have hne := int_neq_self (numsCode l)
  have H := hide h
  clear h
  go_enter Try.func6, Try.ntmps6
  go_wp2_with fail
  refine (toInt64S_any a c l _ (unhide H) hl).mono ?_
  rintro e w1 ⟨rfl, ho1, hb1⟩
  have A1 := intsAt_own1 ho1
  go_wp2_with fail
  refine (specNumbersFault_any _ _ l _ A1 hl).mono ?_
  rintro e w2 ⟨rfl, rfl⟩
  have H1 := hide ((unhide H).below hb1)
  have HB1 := hide hb1
  clear A1 ho1 hb1
  go_wp2_with fail
  refine (toInt64S_any a c l _ (unhide H1) hl).mono ?_
  rintro e w3 ⟨rfl, ho3, hb3⟩
  have A3 := hide (intsAt_own1 ho3)
  have H3 := hide ((unhide H1).below hb3)
  have HB3 := hide (below_step (unhide HB1) hb3 (unhide HB1).size)
  clear ho3 hb3 HB1 H1 H
  go_wp2_with fail
  refine (implNumbersFault_any _ _ l _ (unhide A3) hl).mono ?_
  rintro e w4 ⟨rfl, rfl⟩
  go_wp2_with fail
  refine (toInt64S_any a c l _ (unhide H3) hl).mono ?_
  rintro e w5 ⟨rfl, ho5, hb5⟩
  have A5 := hide (intsAt_own1 ho5)
  have B5 := hide ((unhide A3).below hb5)
  have HB5 := hide (below_step (unhide HB3) hb5 (unhide HB3).size)
  clear ho5 hb5 HB3 H3 A3
  go_wp2_with fail
  refine (eqInt64S_same _ _ _ _ l _ (unhide B5) (unhide A5) hl).mono ?_
  rintro e w6 ⟨rfl, hw6⟩
  have HB6 := hide (below_step (unhide HB5) hw6 (unhide HB5).size)
  clear hw6 HB5 A5 B5
  go_wp2_with fail
  go_ret
  exact ⟨rfl, unhide HB6⟩
end Go.Proofs.Ytmkahaddnbhnaaa.fnExactNumbersFault
