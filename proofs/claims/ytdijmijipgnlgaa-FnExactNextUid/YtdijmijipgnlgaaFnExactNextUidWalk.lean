/-
  The walk of laws.FnExactNextUid: it returns true, and writes nothing that was there.
-/
import Derived.Test.YtdijmijipgnlgaaNextWalk
import Derived.Test.YtdijmijipgnlgaaEqWalk
import Derived.Test.YtdijmijipgnlgaaDevEq
import Derived.Test.YtdijmijipgnlgaaOpenDev
namespace Go.Proofs.Ytdijmijipgnlgaa.fnExactNextUid
open Go.RowKit
set_option linter.unusedVariables false

theorem toInts1_any (a : Option Addr) (c : Nat) (l : List Int) (w : World) (h : IntsAt w a l) (hn : l.length ≤ 1048576) :
    Calls Try.prog 68 #[.slice a l.length c] w fun e w' => (∃ g, e = .returned (.slice (some ⟨g, 0, none⟩) l.length l.length) ∧ w'.ownsRow w.heap.size 2 1 (.slice (some ⟨g, 0, none⟩) l.length l.length) l.length (nums l)) ∧ Below w.heap.size w w' :=
  (toInt64S_any a c l w h hn).mono fun _ _ ⟨h1, h2, h3⟩ => ⟨⟨_, h1, h2⟩, h3⟩

set_option maxHeartbeats 2000000 in
theorem walk (a : Option Addr) (c : Nat) (l : List Int) (w : World) (h : IntsAt w a l) (hn : l.length ≤ maxLen) :
    Calls Try.prog 13 #[.slice a l.length c] w fun e w' => e = .returned (.bool true) ∧ Below w.heap.size w w' := by
  unfold maxLen at hn
  by_cases hbig : 1048576 < (l.length : Int)
  · go_enter Try.func13, Try.ntmps13
    go_wp2
    go_ret
    exact ⟨rfl, Below.refl _ _⟩
  have k1 : l.length ≤ 1048576 := by omega
  have A0 := hide h
  have AZ := A0
  clear h
  go_enter Try.func13, Try.ntmps13
  go_wp2_with fail
  refine (toInts1_any a c l _ (unhide A0) k1).mono ?_
  rintro e w1 ⟨⟨gt, rfl, hO⟩, hb⟩
  have z1 : w.heap.size ≤ w1.heap.size := hb.size
  have A1 := hide ((unhide A0).below hb)
  have B1 := hide hb
  clear hb A0
  have T2 := hide hO
  have LT := hide (fun q hq => hO.lt q hq)
  clear hO
  go_wp2_with fail
  refine (specNextUid_any _ _ l _ (intsAt_own1 (unhide T2)) (Nat.le_refl _) (by omega) k1).mono ?_
  rintro e w3 ⟨rfl, hb⟩
  have z3 : w1.heap.size ≤ w3.heap.size := hb.size
  have A3 := hide ((unhide A1).below hb)
  have T3 := hide (own_below (unhide T2) hb)
  have B3 := hide (below_step (unhide B1) hb (by omega))
  clear hb A1 T2 B1
  generalize hcd : nextCode l = cd at *
  have HCD := hide hcd
  clear hcd
  generalize hcv : nextVal l = cv at *
  have HCV := hide hcv
  clear hcv
  go_wp2_with fail
  obtain ⟨W4, hW, z4, hbx, hx⟩ := boxes1 w3 [.int .i64 cd, .int .i64 cv] 36
  rw [← hW]
  clear hW
  have A4 := hide ((unhide A3).below (unhide hbx))
  have B4 := hide (below_step (unhide B3) (unhide hbx) (by omega))
  have R4 := hx
  clear hbx hx A3 B3
  have u4 : w3.heap.size < W4.heap.size := by omega
  generalize w3.heap.size = b4 at *
  refine (toInts1_any a c l _ (unhide A4) k1).mono ?_
  rintro e w5 ⟨⟨gx, rfl, hO⟩, hb⟩
  have z5 : W4.heap.size ≤ w5.heap.size := hb.size
  have A5 := hide ((unhide A4).below hb)
  have R5 := hide ((unhide R4).below hb)
  have B5 := hide (below_step (unhide B4) hb (by omega))
  clear hb A4 R4 B4
  have X6 := hide hO
  have LX := hide (fun q hq => hO.lt q hq)
  clear hO
  go_wp2_with fail
  refine (implNextUid_any _ _ l _ (intsAt_own1 (unhide X6)) (Nat.le_refl _) (by omega) k1).mono ?_
  rintro e w7 ⟨rfl, hb⟩
  have z7 : w5.heap.size ≤ w7.heap.size := hb.size
  have A7 := hide ((unhide A5).below hb)
  have R7 := hide ((unhide R5).below hb)
  have X7 := hide (own_below (unhide X6) hb)
  have B7 := hide (below_step (unhide B5) hb (by omega))
  clear hb A5 R5 X6 B5
  rw [unhide HCD, unhide HCV]
  have cr0 := (unhide R7).cell 0
  have cr1 := (unhide R7).cell 1
  simp at cr0 cr1
  have lcr : b4 < w7.heap.size := by omega
  go_wp2_with fail
  clear cr0 cr1 lcr
  obtain ⟨W8, hW, z8, hbx, hx⟩ := boxes1 w7 [.int .i64 cd, .int .i64 cv] 36
  rw [← hW]
  clear hW
  have A8 := hide ((unhide A7).below (unhide hbx))
  have R8 := hide ((unhide R7).below (unhide hbx))
  have X8 := hide (own_below (unhide X7) (unhide hbx))
  have B8 := hide (below_step (unhide B7) (unhide hbx) (by omega))
  have V8 := hx
  clear hbx hx A7 R7 X7 B7
  have u8 : w7.heap.size < W8.heap.size := by omega
  generalize w7.heap.size = b8 at *
  refine (eqIntResult_same cd cv _).mono ?_
  rintro e w9 ⟨rfl, hb⟩
  have z9 : W8.heap.size ≤ w9.heap.size := hb.size
  have A9 := hide ((unhide A8).below hb)
  have R9 := hide ((unhide R8).below hb)
  have X9 := hide (own_below (unhide X8) hb)
  have V9 := hide ((unhide V8).below hb)
  have B9 := hide (below_step (unhide B8) hb (by omega))
  clear hb A8 R8 X8 V8 B8
  go_wp2_with fail
  refine (toInts1_any a c l _ (unhide A9) k1).mono ?_
  rintro e w10 ⟨⟨gu, rfl, hO⟩, hb⟩
  have z10 : w9.heap.size ≤ w10.heap.size := hb.size
  have A10 := hide ((unhide A9).below hb)
  have R10 := hide ((unhide R9).below hb)
  have X10 := hide (own_below (unhide X9) hb)
  have V10 := hide ((unhide V9).below hb)
  have B10 := hide (below_step (unhide B9) hb (by omega))
  clear hb A9 R9 X9 V9 B9
  have U11 := hide hO
  have LU := hide (fun q hq => hO.lt q hq)
  clear hO
  go_wp2_with fail
  refine (eqInt64S_same _ _ _ _ l _ (intsAt_own1 (unhide X10)) (intsAt_own1 (unhide U11)) k1).mono ?_
  rintro e w12 ⟨rfl, hb⟩
  have z12 : w10.heap.size ≤ w12.heap.size := hb.size
  have A12 := hide ((unhide A10).below hb)
  have R12 := hide ((unhide R10).below hb)
  have X12 := hide (own_below (unhide X10) hb)
  have V12 := hide ((unhide V10).below hb)
  have U12 := hide (own_below (unhide U11) hb)
  have B12 := hide (below_step (unhide B10) hb (by omega))
  clear hb A10 R10 X10 V10 U11 B10
  go_wp2_with fail
  go_ret
  exact ⟨rfl, unhide B12⟩
end Go.Proofs.Ytdijmijipgnlgaa.fnExactNextUid
