/-
  The walk of laws.FnClocks: it returns true, and writes nothing that was there.
-/
import Derived.Test.YtaadbgebcknfkaaDraw4Bent
import Derived.Test.YtaadbgebcknfkaaClockToWalk
import Derived.Test.YtaadbgebcknfkaaLwNums
import Derived.Laws.StructEq
import Derived.Deep.RegionHeld3
import Derived.Deep.CutRange
namespace Go.Proofs.Ytaadbgebcknfkaa
open Go.RowKit
set_option linter.unusedVariables false

theorem sleftC {W0 w' : World} {p : Prop} (h : Below W0.heap.size W0 w' ∧ p) : Below W0.heap.size W0 w' := h.1
theorem eqlInt (k u k' u' : Int) (w : World) : (Op.equalIn 10000 50 (.agg #[.int .i64 k, .int .i64 u]) (.agg #[.int .i64 k', .int .i64 u'])).run Try.prog w = .ok (k == k' && u == u') w := by
  have hS : Try.prog.underlying 50 = some (.struct (Try.prog.fieldsOf 50)) := by kernel_rfl
  have hp : Try.prog.stoodInHeld 50 = false := by kernel_rfl
  have u3 := Try.underlying2
  have a3 := Try.isAgg2
  have z3 := Try.sizeOf2
  rw [show (10000 : Nat) = 9999 + 1 from rfl, run_equalIn_agg w 9999 50 _ _ hS hp]
  simp only [Program.fieldsOf, Try.underlying50]
  go_simp
  by_cases h1 : k = k' <;> by_cases h2 : u = u' <;> simp [h1, h2]
theorem ct_zero (l : List Int) (x : Int) (h : ctCode l x = 0) : ∃ (y : Int) (h2 : 2 ≤ l.length), y ≤ x ∧ x ≤ 9999 ∧ l[1] = y ∧ (ctWords l x).length = l.length ∧ clockCode (ctWords l x) = 0 ∧ clockVal (ctWords l x) = x ∧ (x = y → ctWords l x = l) ∧ ctCode (ctWords l x) (x - 1) = 3 := by
  have hw : ctWords l x = l.set 1 x := by unfold ctWords; rw [if_pos h]
  unfold ctCode at h
  split at h
  · rename_i hc
    split at h
    · rename_i hb
      rw [inB_true] at hb
      have hs := clock_size hc
      rcases clock_cases l with ⟨h1, h2, _⟩ | ⟨h1, ⟨_, h2, _⟩ | ⟨h0, ⟨_, h2, _⟩ | ⟨h3, _, h4⟩⟩⟩
      · rw [h2] at hc; exact absurd hc h1
      · rw [h2] at hc; cases hc
      · rw [h2] at hc; cases hc
      · rw [h4] at hb
        rw [inB_true] at h3
        have hg : l.getD 1 0 = l[1]'(by omega) := by rw [List.getD_eq_getElem?_getD, List.getElem?_eq_getElem (by omega)]; rfl
        rw [hg] at hb h3
        have hl : (l.set 1 x).length = l.length := List.length_set
        obtain ⟨k1, k2⟩ := wordsCode_ok h1
        have hwc : wordsCode (l.set 1 x) = 0 := by
          unfold wordsCode
          rw [hl, if_pos k1, if_pos]
          unfold allWords at k2 ⊢
          rw [List.all_eq_true] at k2 ⊢
          intro v hv
          rcases List.mem_or_eq_of_mem_set hv with hv | rfl
          · exact k2 v hv
          · simp [wordOk, inB]; omega
        have g0 : (l.set 1 x).getD 0 0 = l.getD 0 0 := by
          rw [List.getD_eq_getElem?_getD, List.getD_eq_getElem?_getD, List.getElem?_set_ne (by omega)]
        have g1 : (l.set 1 x).getD 1 0 = x := by
          rw [List.getD_eq_getElem?_getD, List.getElem?_set_self (by omega)]; rfl
        have hcc : clockCode (l.set 1 x) = 0 := by
          unfold clockCode
          rw [if_pos hwc, g0, if_pos h0, g1, if_pos (by rw [inB_true]; omega)]
        have hcv : clockVal (l.set 1 x) = x := by unfold clockVal; rw [if_pos hcc, g1]
        refine ⟨l[1]'(by omega), by omega, hb.1, hb.2, rfl, by rw [hw, hl], by rw [hw]; exact hcc, by rw [hw]; exact hcv, fun e => ?_, ?_⟩
        · rw [hw, e]
          exact List.set_getElem_self _
        · rw [hw]
          unfold ctCode
          rw [if_pos hcc, hcv, if_neg]
          rw [inB_true]; omega
    · cases h
  · rename_i hc; exact absurd h hc
namespace fnClocks
theorem keepC1 {W0 w' w1 : World} {b0 o0 : Nat} {v0 : Value} (h0 : b0 < W0.heap.size) (hS : Below W0.heap.size W0 w' ∧ w'.cell? ⟨b0, o0, none⟩ = some v0) (hb : Below w'.heap.size w' w1) : Below W0.heap.size W0 w1 ∧ w1.cell? ⟨b0, o0, none⟩ = some v0 := by
  obtain ⟨h, d0⟩ := hS
  have hz := h.size
  exact ⟨h.trans (hb.mono hz), ((bcell hb).1 _ _ (by omega)).trans d0⟩
set_option maxRecDepth 20000 in
theorem no (a : Option Addr) (n c : Nat) (w : World) (hn : ¬ (n : Int) ≤ 1048576) :
    Calls Try.prog 4 #[.slice a n c] w fun r w' => r = .returned (.bool true) ∧ Below w.heap.size w w' := by
  go_enter Try.func4, Try.ntmps4
  go_wp2_with (go_at_call 6; go_in)
  go_ret
  exact ⟨rfl, Below.refl _ _⟩

set_option maxRecDepth 20000 in
set_option maxHeartbeats 8000000 in
theorem yes (a : Option Addr) (n c : Nat) (w : World) (h : CodeAt w a n) (hn : n ≤ 1048576) :
    Calls Try.prog 4 #[.slice a n c] w fun r w' => r = .returned (.bool true) ∧ Below w.heap.size w w' := by
  have hn' : ¬ (1048576 : Int) < n := by omega
  have A0 := hide h
  clear h
  go_enter Try.func4, Try.ntmps4
  go_wp2_with (go_at_call 6; go_in)
  refine (drawClockTo_any a n c _ (unhide A0) hn).mono ?_
  rintro r w1 ⟨⟨g, m, cp, l, x, rfl, hl, hmc, hcp, hbt, hx0, hx1⟩, hb⟩
  have z1 : w.heap.size ≤ w1.heap.size := hb.size
  have A1 := hide ((unhide A0).below hb)
  have B1 := hide hb
  clear hb A0
  have hi := hbt.ints
  subst hl
  clear hbt
  have In1 := hide hi
  clear hi
  have hl2 : l.length ≤ 1048576 := by omega
  go_wp2_with fail
  refine (implClockTo_any (some ⟨g, 0, none⟩) cp l x _ (unhide In1) hl2).mono ?_
  rintro r w2 ⟨⟨v, rfl, ho⟩, hb⟩
  have z2 : w1.heap.size ≤ w2.heap.size := hb.size
  have A2 := hide ((unhide A1).below hb)
  have I2 := hide ((unhide In1).below hb)
  have B2 := hide (below_step (unhide B1) hb (by omega))
  clear hb A1 In1 B1
  obtain ⟨av, cv, rfl, -, hw, -, -⟩ := intsAt_own ho
  have HCT := hide (ct_zero l x)
  generalize hcd : ctCode l x = cd at *
  generalize hws : ctWords l x = ws at *
  have HCD := hide hcd
  clear hcd hws ho
  have Vn2 := hide hw
  clear hw
  go_upto_region 5 with fail
  obtain ⟨W3, hW, z3, hbx, hx⟩ := boxes1 w2 [.int .i64 cd, .slice av ws.length cv] 47
  rw [← hW]
  clear hW
  have A3 := hide ((unhide A2).below (unhide hbx))
  have I3 := hide ((unhide I2).below (unhide hbx))
  have V3 := hide ((unhide Vn2).below (unhide hbx))
  have B3 := hide (below_step (unhide B2) (unhide hbx) (by omega))
  clear A2 I2 Vn2 B2
  have R3 := hx
  clear hbx hx
  have u3 : w2.heap.size < W3.heap.size := by omega
  generalize w2.heap.size = bR at *
  have cr0 := (unhide R3).cell 0
  simp only [List.getElem?_cons_zero] at cr0
  have lcr : bR < W3.heap.size := by omega
  have hD : (fun w' => Below W3.heap.size W3 w' ∧ w'.cell? ⟨bR, 0, none⟩ = some (.int .i64 cd)) W3.drew := ⟨(Below.refl _ _).drew, cr0⟩
  have HD := hide hD
  clear hD
  have n1 := int_neq_self cd
  have hfd : ∀ (x : Int) (v : Value) (w : World), (Instr.field 47 (.agg #[.int .i64 x, v]) 0).run Try.prog w = .ok (.int .i64 x) w := fun x v w => by kernel_rfl
  go_wp2_with fail
  clear cr0
  go_region_held3 (fun w' => Below W3.heap.size W3 w' ∧ w'.cell? ⟨bR, 0, none⟩ = some (.int .i64 cd)) (first | exact unhide HD | assumption | exact keepC1 lcr (by assumption) (by assumption))
    (first
      | (go_at_call 19; refine (specClockTo_any (some ⟨g, 0, none⟩) cp l x _ ((unhide I3).below (sleftC (by assumption))) hl2).mono ?_; rintro r w5 ⟨⟨v5, rfl, hoo⟩, hb5⟩; rw [unhide HCD]; clear hoo))
  rename_i hS
  have hbS := sleftC hS
  have A4 := hide ((unhide A3).below hbS)
  have I4 := hide ((unhide I3).below hbS)
  have V4 := hide ((unhide V3).below hbS)
  have R4 := hide ((unhide R3).below hbS)
  have B4 := hide (below_step (unhide B3) hbS (by omega))
  have z4 := hbS.size
  clear hS hbS HD n1 A3 I3 V3 R3 B3
  generalize hwn : w5 = w4 at *
  clear hwn lcr
  have cr0 := (unhide R4).cell 0
  have cr1 := (unhide R4).cell 1
  simp only [List.getElem?_cons_zero, List.getElem?_cons_succ] at cr0 cr1
  have lcr : bR < w4.heap.size := by omega
  by_cases hc : cd = 0
  case neg =>
    have hcb : (cd != 0) = true := by simpa using hc
    clear hc
    go_wp2_with fail
    go_ret
    exact ⟨rfl, unhide B4⟩
  have hcb : (cd != 0) = false := by simpa using hc
  obtain ⟨y, hy1, hyx, hx9, hws, hlen, hc1, hc2, hsame, hless⟩ := unhide HCT hc
  have HLY := hide hws
  have HS := hide hsame
  have HLS := hide hless
  have HC1 := hide hc1
  have HC2 := hide hc2
  have HLN := hide hlen
  have hwl : ws.length ≤ 1048576 := by omega
  have y1 : w4.cell? ⟨g, 1, none⟩ = some (.int .i64 y) := by
    obtain ⟨b', o', e', -, hcc⟩ := (unhide I4).at (k := 1) (by omega)
    cases e'
    have := hcc 1 (by omega)
    rw [show l[1]'(by omega) = y from hws] at this
    simpa using this
  have zy : g < w4.heap.size := by
    obtain ⟨b', o', e', hb', -⟩ := (unhide I4).at (k := 1) (by omega)
    cases e'; exact hb'
  have hl1 : (1 : Int) < (l.length : Int) := by omega
  clear hc HCT hsame hless hc1 hc2 hlen hws
  go_wp2_with fail
  clear cr0 cr1 lcr
  clear y1
  refine (implClockOf_any av cv ws _ (unhide V4) hwl).mono ?_
  rintro r w5 ⟨rfl, hb⟩
  have z5 : w4.heap.size ≤ w5.heap.size := hb.size
  have A5 := hide ((unhide A4).below hb)
  have I5 := hide ((unhide I4).below hb)
  have V5 := hide ((unhide V4).below hb)
  have R5 := hide ((unhide R4).below hb)
  have B5 := hide (below_step (unhide B4) hb (by omega))
  clear hb A4 I4 V4 R4 B4
  rw [unhide HC1, unhide HC2]
  have hE := eqlInt 0 x 0 x
  have hxx : ((0 : Int) == 0 && x == x) = true := by simp
  rw [hxx] at hE
  have hll : (ws.length : Int) = l.length := by rw [unhide HLN]
  have y1 : w5.cell? ⟨g, 1, none⟩ = some (.int .i64 y) := by
    obtain ⟨b', o', e', -, hcc⟩ := (unhide I5).at (k := 1) (by omega)
    cases e'
    have := hcc 1 (by omega)
    rw [show l[1]'(by omega) = y from unhide HLY] at this
    simpa using this
  by_cases hxy : x = y
  · have hb1 : (x != y) = false := by rw [hxy]; simp
    have hws2 : ws = l := unhide HS hxy
    have W_ : Hid (IntsAt w5 av l) := by rw [Hid, ← hws2]; exact unhide V5
    clear hws2
    have cr0 := (unhide R5).cell 0
    have cr1 := (unhide R5).cell 1
    simp only [List.getElem?_cons_zero, List.getElem?_cons_succ] at cr0 cr1
    have lcr : bR < w5.heap.size := by omega
    go_wp2_with fail
    clear cr0 cr1 lcr
    rw [unhide HLN]
    refine (lwNums_same av (some ⟨g, 0, none⟩) cv cp l _ (unhide W_) (unhide I5) hl2).mono ?_
    rintro r w6 ⟨rfl, hb⟩
    have z6 : w5.heap.size ≤ w6.heap.size := hb.size
    have A6 := hide ((unhide A5).below hb)
    have I6 := hide ((unhide I5).below hb)
    have V6 := hide ((unhide V5).below hb)
    have R6 := hide ((unhide R5).below hb)
    have B6 := hide (below_step (unhide B5) hb (by omega))
    clear hb A5 I5 V5 R5 B5
    have y1 : w6.cell? ⟨g, 1, none⟩ = some (.int .i64 y) := by
      obtain ⟨b', o', e', -, hcc⟩ := (unhide I6).at (k := 1) (by omega)
      cases e'
      have := hcc 1 (by omega)
      rw [show l[1]'(by omega) = y from unhide HLY] at this
      simpa using this
    have hlt : x - 1 < y := by omega
    have cr0 := (unhide R6).cell 0
    have cr1 := (unhide R6).cell 1
    simp only [List.getElem?_cons_zero, List.getElem?_cons_succ] at cr0 cr1
    have lcr : bR < w6.heap.size := by omega
    go_wp2_with fail
    clear cr0 cr1 lcr
    go_ret
    exact ⟨rfl, unhide B6⟩
  · have hb1 : (x != y) = true := by simpa using hxy
    have hlt : ¬ x - 1 < y := by omega
    have hf : ∀ (z : Int) (v : Value) (w : World), (Instr.field 47 (.agg #[.int .i64 z, v]) 0).run Try.prog w = .ok (.int .i64 z) w := fun z v w => by kernel_rfl
    have cr0 := (unhide R5).cell 0
    have cr1 := (unhide R5).cell 1
    simp only [List.getElem?_cons_zero, List.getElem?_cons_succ] at cr0 cr1
    have lcr : bR < w5.heap.size := by omega
    go_wp2_with fail
    clear cr0 cr1 lcr
    refine (implClockTo_any av cv ws (x - 1) _ (unhide V5) hwl).mono ?_
    rintro r w6 ⟨⟨v3, rfl, ho3⟩, hb⟩
    have z6 : w5.heap.size ≤ w6.heap.size := hb.size
    have A6 := hide ((unhide A5).below hb)
    have I6 := hide ((unhide I5).below hb)
    have V6 := hide ((unhide V5).below hb)
    have R6 := hide ((unhide R5).below hb)
    have B6 := hide (below_step (unhide B5) hb (by omega))
    clear hb A5 I5 V5 R5 B5
    rw [unhide HLS]
    clear ho3
    go_wp2_with fail
    go_ret
    exact ⟨rfl, unhide B6⟩
end fnClocks
end Go.Proofs.Ytaadbgebcknfkaa
