/-
  The walk of laws.FnBlocks: it returns true, and writes nothing that was there.
-/
import Derived.Test.YtmkahaddnbhnaaaDraw3Pack
import Derived.Test.YtmkahaddnbhnaaaReadBack
import Derived.Test.YtmkahaddnbhnaaaIReadWalk
import Derived.Test.YtmkahaddnbhnaaaSDataWalk
import Derived.Deep.RegionHeld3
namespace Go.Proofs.Ytmkahaddnbhnaaa
open Go.RowKit
set_option linter.unusedVariables false

theorem keepFB {W0 w' w1 : World} {b1 b2 b3 b4 : Nat} {v0 v1 v2 v3 v4 v5 v6 v7 : Value} (h1 : b1 < W0.heap.size) (h2 : b2 < W0.heap.size) (h3 : b3 < W0.heap.size) (h4 : b4 < W0.heap.size)
    (hS : Below W0.heap.size W0 w' ∧ w'.cell? ⟨b1, 0, none⟩ = some v0 ∧ w'.cell? ⟨b2, 0, none⟩ = some v1 ∧ w'.cell? ⟨b3, 0, none⟩ = some v2 ∧ w'.cell? ⟨b4, 0, none⟩ = some v3 ∧ w'.cell? ⟨b4, 1, none⟩ = some v4 ∧ w'.cell? ⟨b4, 2, none⟩ = some v5 ∧ w'.cell? ⟨b4, 3, none⟩ = some v6 ∧ w'.cell? ⟨b4, 4, none⟩ = some v7) (hb : Below w'.heap.size w' w1) :
    Below W0.heap.size W0 w1 ∧ w1.cell? ⟨b1, 0, none⟩ = some v0 ∧ w1.cell? ⟨b2, 0, none⟩ = some v1 ∧ w1.cell? ⟨b3, 0, none⟩ = some v2 ∧ w1.cell? ⟨b4, 0, none⟩ = some v3 ∧ w1.cell? ⟨b4, 1, none⟩ = some v4 ∧ w1.cell? ⟨b4, 2, none⟩ = some v5 ∧ w1.cell? ⟨b4, 3, none⟩ = some v6 ∧ w1.cell? ⟨b4, 4, none⟩ = some v7 := by
  obtain ⟨h, d0, d1, d2, d3, d4, d5, d6, d7⟩ := hS
  have hz := h.size
  exact ⟨h.trans (hb.mono hz), ((bcell hb).1 _ _ (by omega)).trans d0, ((bcell hb).1 _ _ (by omega)).trans d1, ((bcell hb).1 _ _ (by omega)).trans d2, ((bcell hb).1 _ _ (by omega)).trans d3, ((bcell hb).1 _ _ (by omega)).trans d4, ((bcell hb).1 _ _ (by omega)).trans d5, ((bcell hb).1 _ _ (by omega)).trans d6, ((bcell hb).1 _ _ (by omega)).trans d7⟩

set_option maxHeartbeats 1000000 in
theorem lwNums_same (a b : Option Addr) (c d : Nat) (l : List Int) (w : World) (h : IntsAt w a l) (h2 : IntsAt w b l) (hn : l.length ≤ 1048576) :
    Calls Try.prog 27 #[.slice a l.length c, .slice b l.length d] w fun e w' => e = .returned (.bool true) ∧ Below w.heap.size w w' := by
  have hne := int_neq_self (l.length : Int)
  go_enter Try.func27, Try.ntmps27
  go_wp2
  go_loopw [5] (fun i wr => ∃ (k n : Nat), k ≤ l.length ∧ i = .int .i64 k ∧ wr = w.drewN n) (fun i _ => l.length - (intOf i).toNat)
  case atStart => exact ⟨0, 0, Nat.zero_le _, rfl, rfl⟩
  case round =>
    obtain ⟨k, n, hk, rfl, rfl⟩ := hrel
    by_cases hlt : k < l.length
    · obtain ⟨b1, o1, rfl, _, hc1⟩ := h.at hlt
      obtain ⟨b2, o2, rfl, _, hc2⟩ := h2.at hlt
      have hk1 := hc1 k hlt
      have hk2 := hc2 k hlt
      have hlt' : (k : Int) < l.length := by omega
      have hq := int_neq_self l[k]
      clear hc1 hc2 h h2
      go_wp2
      go_quiet (fail)
      go_wp2
      exact ⟨⟨k + 1, _, by omega, by go_num, rfl⟩, by simp [intOf]; omega⟩
    · clear h h2
      go_wp2
      go_ret
      exact ⟨rfl, below_drewN (Below.refl _ _) _⟩
theorem implRead_ex {k u i e nu : Int} {nd : Bool} {np : Int} {nn : ByteArray} {ns : Int} {nl : List Int} (a : Option Addr) (c : Nat) (l : List Int) (hcl : l.length ≤ c) (hl : l.length ≤ 1048576) (w : World) (h : IntsAt w a l) (hB : readBlk l = ⟨k, u, i, e, nu, nd, np, nn, ns, nl⟩) :
    Calls Try.prog 26 #[.slice a l.length c] w fun r w' => (∃ v, r = .returned (.agg #[.int .i64 (readCode l), .int .i64 k, .int .i64 u, .int .i64 i, .int .i64 e, .int .i64 nu, .bool nd, .int .i64 np, .string nn, .int .i64 ns, v]) ∧ w'.ownsRow w.heap.size 2 1 v nl.length (nums nl)) ∧ Below w.heap.size w w' := by
  refine (implReadBlock_any a c l hcl hl w h).mono ?_
  rintro r w1 ⟨⟨v, rfl, ho⟩, hb⟩
  rw [hB] at ho ⊢
  exact ⟨⟨v, rfl, ho⟩, hb⟩

namespace fnBlocks
set_option maxRecDepth 20000 in
theorem no (a : Option Addr) (n c : Nat) (w : World) (hn : ¬ (n : Int) ≤ 1048576) :
    Calls Try.prog 3 #[.slice a n c] w fun r w' => r = .returned (.bool true) ∧ Below w.heap.size w w' := by
  go_enter Try.func3, Try.ntmps3
  go_wp2_with (go_at_call 12; go_in)
  go_ret
  exact ⟨rfl, Below.refl _ _⟩

set_option maxRecDepth 20000 in
set_option maxHeartbeats 4000000 in
theorem yes (a : Option Addr) (n c : Nat) (w : World) (h : CodeAt w a n) (hn : n ≤ 1048576) :
    Calls Try.prog 3 #[.slice a n c] w fun r w' => r = .returned (.bool true) ∧ Below w.heap.size w w' := by
  have hn' : ¬ (1048576 : Int) < n := by omega
  have AZ := hide h
  clear h
  go_enter Try.func3, Try.ntmps3
  go_wp2_with (go_at_call 12; go_in)
  refine (drawPackNode_any a n c _ (unhide AZ) hn).mono ?_
  rintro e w1 ⟨⟨u, d, pa, nm, sz, e, rfl, hnm⟩, hb⟩
  have z1 : w.heap.size ≤ w1.heap.size := hb.size
  have A1 := hide ((unhide AZ).below hb)
  have B1 := hide hb
  clear hb AZ
  have hs : nm.size ≤ maxLen := by unfold maxLen; omega
  clear hnm
  go_wp2_with fail
  obtain ⟨W2, hW, z2, hbx, hx⟩ := boxes1 w1 [.int .i64 u, .bool d, .int .i64 pa, .string nm, .int .i64 sz] 25
  rw [← hW]
  clear hW
  have A2 := hide ((unhide A1).below (unhide hbx))
  have B2 := hide (below_step (unhide B1) (unhide hbx) (by omega))
  have P2 := hx
  clear hbx hx A1 B1
  have u2 : w1.heap.size < W2.heap.size := by omega
  generalize w1.heap.size = b2 at *
  refine (implPackNode_any u d pa nm sz e _ hs).mono ?_
  rintro e w3 ⟨⟨v1, rfl, ho⟩, hb⟩
  have z3 : W2.heap.size ≤ w3.heap.size := hb.size
  have A3 := hide ((unhide A2).below hb)
  have P3 := hide ((unhide P2).below hb)
  have B3 := hide (below_step (unhide B2) hb (by omega))
  clear hb A2 P2 B2
  obtain ⟨a1, c1, rfl, -, -, hc1, -⟩ := intsAt_own ho
  have G4 := hide ho
  have LG := hide (fun q hq => World.ownsRow.lt ho q hq)
  clear ho
  go_wp2_with fail
  obtain ⟨W5, hW, z5, hbx, hx⟩ := boxes1 w3 [.int .i64 (nodePCode u d pa nm.data.toList sz e), .slice a1 (nodeWords u d pa nm.data.toList sz e).length c1] 30
  rw [← hW]
  clear hW
  have A5 := hide ((unhide A3).below (unhide hbx))
  have P5 := hide ((unhide P3).below (unhide hbx))
  have G5 := hide (own_below (unhide G4) (unhide hbx))
  have B5 := hide (below_step (unhide B3) (unhide hbx) (by omega))
  have R5 := hx
  clear hbx hx A3 P3 G4 B3
  have u5 : w3.heap.size < W5.heap.size := by omega
  generalize w3.heap.size = b5 at *
  refine (drawPackData_any a n c _ (unhide A5) hn).mono ?_
  rintro e w6 ⟨⟨u2, i2, ad, cp, l, e2, rfl, hil, hll⟩, hb⟩
  have z6 : W5.heap.size ≤ w6.heap.size := hb.size
  have A6 := hide ((unhide A5).below hb)
  have P6 := hide ((unhide P5).below hb)
  have G6 := hide (own_below (unhide G5) hb)
  have R6 := hide ((unhide R5).below hb)
  have B6 := hide (below_step (unhide B5) hb (by omega))
  clear hb A5 P5 G5 R5 B5
  have LX := hide hil
  clear hil
  have hl6 : l.length ≤ 1048576 := by omega
  go_wp2_with fail
  refine (implPackData_any u2 i2 ad cp l e2 _ (unhide LX) hl6).mono ?_
  rintro e w7 ⟨⟨v2, rfl, ho⟩, hb⟩
  have z7 : w6.heap.size ≤ w7.heap.size := hb.size
  have A7 := hide ((unhide A6).below hb)
  have P7 := hide ((unhide P6).below hb)
  have G7 := hide (own_below (unhide G6) hb)
  have R7 := hide ((unhide R6).below hb)
  have L7 := hide ((unhide LX).below hb)
  have B7 := hide (below_step (unhide B6) hb (by omega))
  clear hb A6 P6 G6 R6 LX B6
  obtain ⟨a2, c2, rfl, -, -, hc2, -⟩ := intsAt_own ho
  have K8 := hide ho
  have LK := hide (fun q hq => World.ownsRow.lt ho q hq)
  clear ho
  go_wp2_with fail
  obtain ⟨W9, hW, z9, hbx, hx⟩ := boxes1 w7 [.int .i64 (dataCode u2 i2 l e2), .slice a2 (dataWords u2 i2 l e2).length c2] 30
  rw [← hW]
  clear hW
  have A9 := hide ((unhide A7).below (unhide hbx))
  have P9 := hide ((unhide P7).below (unhide hbx))
  have G9 := hide (own_below (unhide G7) (unhide hbx))
  have R9 := hide ((unhide R7).below (unhide hbx))
  have L9 := hide ((unhide L7).below (unhide hbx))
  have K9 := hide (own_below (unhide K8) (unhide hbx))
  have B9 := hide (below_step (unhide B7) (unhide hbx) (by omega))
  have V9 := hx
  clear hbx hx A7 P7 G7 R7 L7 K8 B7
  have u9 : w7.heap.size < W9.heap.size := by omega
  generalize w7.heap.size = b9 at *
  refine (drawPackGone_any a n c _ (unhide A9) hn).mono ?_
  rintro e w10 ⟨⟨u3, e3, rfl⟩, hb⟩
  have z10 : W9.heap.size ≤ w10.heap.size := hb.size
  have A10 := hide ((unhide A9).below hb)
  have P10 := hide ((unhide P9).below hb)
  have G10 := hide (own_below (unhide G9) hb)
  have R10 := hide ((unhide R9).below hb)
  have L10 := hide ((unhide L9).below hb)
  have K10 := hide (own_below (unhide K9) hb)
  have V10 := hide ((unhide V9).below hb)
  have B10 := hide (below_step (unhide B9) hb (by omega))
  clear hb A9 P9 G9 R9 L9 K9 V9 B9
  go_wp2_with fail
  refine (implPackGone_any u3 e3 _).mono ?_
  rintro e w11 ⟨⟨v3, rfl, ho⟩, hb⟩
  have z11 : w10.heap.size ≤ w11.heap.size := hb.size
  have A11 := hide ((unhide A10).below hb)
  have P11 := hide ((unhide P10).below hb)
  have G11 := hide (own_below (unhide G10) hb)
  have R11 := hide ((unhide R10).below hb)
  have L11 := hide ((unhide L10).below hb)
  have K11 := hide (own_below (unhide K10) hb)
  have V11 := hide ((unhide V10).below hb)
  have B11 := hide (below_step (unhide B10) hb (by omega))
  clear hb A10 P10 G10 R10 L10 K10 V10 B10
  obtain ⟨a3, c3, rfl, -, -, hc3, -⟩ := intsAt_own ho
  have M12 := hide ho
  have LM := hide (fun q hq => World.ownsRow.lt ho q hq)
  clear ho
  go_wp2_with fail
  obtain ⟨W13, hW, z13, hbx, hx⟩ := boxes1 w11 [.int .i64 (goneCode u3 e3), .slice a3 (goneWords u3 e3).length c3] 30
  rw [← hW]
  clear hW
  have A13 := hide ((unhide A11).below (unhide hbx))
  have P13 := hide ((unhide P11).below (unhide hbx))
  have G13 := hide (own_below (unhide G11) (unhide hbx))
  have R13 := hide ((unhide R11).below (unhide hbx))
  have L13 := hide ((unhide L11).below (unhide hbx))
  have K13 := hide (own_below (unhide K11) (unhide hbx))
  have V13 := hide ((unhide V11).below (unhide hbx))
  have M13 := hide (own_below (unhide M12) (unhide hbx))
  have B13 := hide (below_step (unhide B11) (unhide hbx) (by omega))
  have Z13 := hx
  clear hbx hx A11 P11 G11 R11 L11 K11 V11 M12 B11
  have u13 : w11.heap.size < W13.heap.size := by omega
  generalize w11.heap.size = b13 at *
  have cr0 := (unhide R13).cell 0
  simp at cr0
  have lcr : b5 < W13.heap.size := by omega
  have cv0 := (unhide V13).cell 0
  simp at cv0
  have lcv : b9 < W13.heap.size := by omega
  have cz0 := (unhide Z13).cell 0
  simp at cz0
  have lcz : b13 < W13.heap.size := by omega
  have cp0 := (unhide P13).cell 0
  have cp1 := (unhide P13).cell 1
  have cp2 := (unhide P13).cell 2
  have cp3 := (unhide P13).cell 3
  have cp4 := (unhide P13).cell 4
  simp at cp0 cp1 cp2 cp3 cp4
  have lcp : b2 < W13.heap.size := by omega
  have hD : (fun w' => Below W13.heap.size W13 w' ∧ w'.cell? ⟨b5, 0, none⟩ = some (.int .i64 (nodePCode u d pa nm.data.toList sz e)) ∧ w'.cell? ⟨b9, 0, none⟩ = some (.int .i64 (dataCode u2 i2 l e2)) ∧ w'.cell? ⟨b13, 0, none⟩ = some (.int .i64 (goneCode u3 e3)) ∧ w'.cell? ⟨b2, 0, none⟩ = some (.int .i64 u) ∧ w'.cell? ⟨b2, 1, none⟩ = some (.bool d) ∧ w'.cell? ⟨b2, 2, none⟩ = some (.int .i64 pa) ∧ w'.cell? ⟨b2, 3, none⟩ = some (.string nm) ∧ w'.cell? ⟨b2, 4, none⟩ = some (.int .i64 sz)) W13.drew := ⟨(Below.refl _ _).drew, cr0, cv0, cz0, cp0, cp1, cp2, cp3, cp4⟩
  have HD := hide hD
  clear hD
  clear cr0 lcr cv0 lcv cz0 lcz cp0 cp1 cp2 cp3 cp4 lcp
  have n1 := int_neq_self (nodePCode u d pa nm.data.toList sz e)
  have n2 := int_neq_self (dataCode u2 i2 l e2)
  have n3 := int_neq_self (goneCode u3 e3)
  have n4 := int_neq_self (nodeCode u d pa nm.data.toList sz)
  have n5 := int_neq_self (numsCode l)
  have hfd : ∀ (x : Int) (v : Value) (w : World), (Instr.field 30 (.agg #[.int .i64 x, v]) 0).run Try.prog w = .ok (.int .i64 x) w := fun x v w => by kernel_rfl
  have mP : b2 < W13.heap.size := by omega
  have mR : b5 < W13.heap.size := by omega
  have mV : b9 < W13.heap.size := by omega
  have mZ : b13 < W13.heap.size := by omega
  go_region_held3 (fun w' => Below W13.heap.size W13 w' ∧ w'.cell? ⟨b5, 0, none⟩ = some (.int .i64 (nodePCode u d pa nm.data.toList sz e)) ∧ w'.cell? ⟨b9, 0, none⟩ = some (.int .i64 (dataCode u2 i2 l e2)) ∧ w'.cell? ⟨b13, 0, none⟩ = some (.int .i64 (goneCode u3 e3)) ∧ w'.cell? ⟨b2, 0, none⟩ = some (.int .i64 u) ∧ w'.cell? ⟨b2, 1, none⟩ = some (.bool d) ∧ w'.cell? ⟨b2, 2, none⟩ = some (.int .i64 pa) ∧ w'.cell? ⟨b2, 3, none⟩ = some (.string nm) ∧ w'.cell? ⟨b2, 4, none⟩ = some (.int .i64 sz)) (first | exact unhide HD | assumption | exact keepFB mR mV mZ mP (by assumption) (by assumption))
    (first
      | (go_at_call 19; refine (specPackNode_any _ _ _ _ _ _ _ hs).mono ?_; rintro r w5 ⟨⟨vv, rfl, hoo⟩, hb5⟩)
      | (go_at_call 20; refine (specPackData_any _ _ ad cp l _ _ ((unhide L13).below (sleft' (by assumption))) hl6).mono ?_; rintro r w5 ⟨⟨vv, rfl, hoo⟩, hb5⟩)
      | (go_at_call 21; refine (specPackGone_any _ _ _).mono ?_; rintro r w5 ⟨⟨vv, rfl, hoo⟩, hb5⟩)
      | (go_at_call 22; refine (implNodeFault_any _ _ _ _ _ _ hs).mono ?_; rintro r w5 ⟨rfl, hb5⟩)
      | (go_at_call 23; refine (specNodeFault_any _ _ _ _ _ _ hs).mono ?_; rintro r w5 ⟨rfl, hb5⟩)
      | (go_at_call 24; refine (implNumbersFault_any ad cp l _ ((unhide L13).below (sleft' (by assumption))) hl6).mono ?_; rintro r w5 ⟨rfl, rfl⟩)
      | (go_at_call 25; refine (specNumbersFault_any ad cp l _ ((unhide L13).below (sleft' (by assumption))) hl6).mono ?_; rintro r w5 ⟨rfl, rfl⟩))
  rename_i hSF
  have hbS := hSF.1
  clear hSF HD
  generalize hwn : w5 = w34 at *
  clear hwn
  have z14 : W13.heap.size ≤ w34.heap.size := hbS.size
  have A14 := hide ((unhide A13).below hbS)
  have P14 := hide ((unhide P13).below hbS)
  have G14 := hide (own_below (unhide G13) hbS)
  have R14 := hide ((unhide R13).below hbS)
  have L14 := hide ((unhide L13).below hbS)
  have K14 := hide (own_below (unhide K13) hbS)
  have V14 := hide ((unhide V13).below hbS)
  have M14 := hide (own_below (unhide M13) hbS)
  have Z14 := hide ((unhide Z13).below hbS)
  have B14 := hide (below_step (unhide B13) hbS (by omega))
  clear hbS A13 P13 G13 R13 L13 K13 V13 M13 Z13 B13
  by_cases heA : (nodePCode u d pa nm.data.toList sz e) = 0
  · have HA := hide heA
    by_cases heB : (dataCode u2 i2 l e2) = 0
    · have HB := hide heB
      by_cases heC : (goneCode u3 e3) = 0
      · have HC := hide heC
        have eA : ((nodePCode u d pa nm.data.toList sz e) == 0) = true := by simpa using heA
        have eB : ((dataCode u2 i2 l e2) == 0) = true := by simpa using heB
        have eC : ((goneCode u3 e3) != 0) = false := by simpa using heC
        clear heA heB heC
        have cr0 := (unhide R14).cell 0
        have cr1 := (unhide R14).cell 1
        simp at cr0 cr1
        have lcr : b5 < w34.heap.size := by omega
        go_wp2_with fail
        clear cr0 cr1 lcr
        refine (implRead_ex a1 c1 (nodeWords u d pa nm.data.toList sz e) hc1 (nodeWords_len _ _ _ _ _ _) _ (intsAt_own1 (unhide G14)) (node_back u d pa nm sz e (unhide HA)).2).mono ?_
        rintro e w15 ⟨⟨vr, rfl, hor⟩, hb⟩
        have z15 : w34.heap.size ≤ w15.heap.size := hb.size
        have A15 := hide ((unhide A14).below hb)
        have P15 := hide ((unhide P14).below hb)
        have G15 := hide (own_below (unhide G14) hb)
        have R15 := hide ((unhide R14).below hb)
        have L15 := hide ((unhide L14).below hb)
        have K15 := hide (own_below (unhide K14) hb)
        have V15 := hide ((unhide V14).below hb)
        have M15 := hide (own_below (unhide M14) hb)
        have Z15 := hide ((unhide Z14).below hb)
        have B15 := hide (below_step (unhide B14) hb (by omega))
        clear hb A14 P14 G14 R14 L14 K14 V14 M14 Z14 B14
        rw [(node_back u d pa nm sz e (unhide HA)).1]
        obtain ⟨a4, c4, rfl, -, -, -, -⟩ := intsAt_own hor
        clear hor
        have hN := neq_node u d pa nm sz
        have hH := neq_head 1 u 0 e
        have cp0 := (unhide P15).cell 0
        have cp1 := (unhide P15).cell 1
        have cp2 := (unhide P15).cell 2
        have cp3 := (unhide P15).cell 3
        have cp4 := (unhide P15).cell 4
        simp at cp0 cp1 cp2 cp3 cp4
        have lcp : b2 < w15.heap.size := by omega
        have cv0 := (unhide V15).cell 0
        have cv1 := (unhide V15).cell 1
        simp at cv0 cv1
        have lcv : b9 < w15.heap.size := by omega
        go_wp2_with fail
        clear cp0 cp1 cp2 cp3 cp4 lcp cv0 cv1 lcv
        clear hN hH
        obtain ⟨W16, hW, z16, hbx, hx⟩ := boxes1 w15 [.int .i64 0, .int .i64 1, .int .i64 u, .int .i64 0, .int .i64 e, .int .i64 u, .bool d, .int .i64 pa, .string nm, .int .i64 sz, .slice a4 0 c4] 45
        rw [← hW]
        clear hW
        have A16 := hide ((unhide A15).below (unhide hbx))
        have P16 := hide ((unhide P15).below (unhide hbx))
        have G16 := hide (own_below (unhide G15) (unhide hbx))
        have R16 := hide ((unhide R15).below (unhide hbx))
        have L16 := hide ((unhide L15).below (unhide hbx))
        have K16 := hide (own_below (unhide K15) (unhide hbx))
        have V16 := hide ((unhide V15).below (unhide hbx))
        have M16 := hide (own_below (unhide M15) (unhide hbx))
        have Z16 := hide ((unhide Z15).below (unhide hbx))
        have B16 := hide (below_step (unhide B15) (unhide hbx) (by omega))
        have T16 := hx
        clear hbx hx A15 P15 G15 R15 L15 K15 V15 M15 Z15 B15
        have u16 : w15.heap.size < W16.heap.size := by omega
        generalize w15.heap.size = b16 at *
        refine (implRead_ex a2 c2 (dataWords u2 i2 l e2) hc2 (dataWords_len _ _ _ _) _ (intsAt_own1 (unhide K16)) (data_back u2 i2 l e2 (unhide HB)).2).mono ?_
        rintro e w17 ⟨⟨vr, rfl, hor⟩, hb⟩
        have z17 : W16.heap.size ≤ w17.heap.size := hb.size
        have A17 := hide ((unhide A16).below hb)
        have P17 := hide ((unhide P16).below hb)
        have G17 := hide (own_below (unhide G16) hb)
        have R17 := hide ((unhide R16).below hb)
        have L17 := hide ((unhide L16).below hb)
        have K17 := hide (own_below (unhide K16) hb)
        have V17 := hide ((unhide V16).below hb)
        have M17 := hide (own_below (unhide M16) hb)
        have Z17 := hide ((unhide Z16).below hb)
        have T17 := hide ((unhide T16).below hb)
        have B17 := hide (below_step (unhide B16) hb (by omega))
        clear hb A16 P16 G16 R16 L16 K16 V16 M16 Z16 T16 B16
        rw [(data_back u2 i2 l e2 (unhide HB)).1]
        obtain ⟨a5, c5, rfl, -, -, -, -⟩ := intsAt_own hor
        have N18 := hide hor
        have LN := hide (fun q hq => World.ownsRow.lt hor q hq)
        clear hor
        go_wp2_with fail
        obtain ⟨W19, hW, z19, hbx, hx⟩ := boxes1 w17 [.int .i64 0, .int .i64 2, .int .i64 u2, .int .i64 i2, .int .i64 e2, .int .i64 0, .bool false, .int .i64 0, .string ⟨#[]⟩, .int .i64 0, .slice a5 l.length c5] 45
        rw [← hW]
        clear hW
        have A19 := hide ((unhide A17).below (unhide hbx))
        have P19 := hide ((unhide P17).below (unhide hbx))
        have G19 := hide (own_below (unhide G17) (unhide hbx))
        have R19 := hide ((unhide R17).below (unhide hbx))
        have L19 := hide ((unhide L17).below (unhide hbx))
        have K19 := hide (own_below (unhide K17) (unhide hbx))
        have V19 := hide ((unhide V17).below (unhide hbx))
        have M19 := hide (own_below (unhide M17) (unhide hbx))
        have Z19 := hide ((unhide Z17).below (unhide hbx))
        have T19 := hide ((unhide T17).below (unhide hbx))
        have N19 := hide (own_below (unhide N18) (unhide hbx))
        have B19 := hide (below_step (unhide B17) (unhide hbx) (by omega))
        have Q19 := hx
        clear hbx hx A17 P17 G17 R17 L17 K17 V17 M17 Z17 T17 N18 B17
        have u19 : w17.heap.size < W19.heap.size := by omega
        generalize w17.heap.size = b19 at *
        refine (lwNums_same a5 ad c5 cp l _ (intsAt_own1 (unhide N19)) (unhide L19) hl6).mono ?_
        rintro e w20 ⟨rfl, hb⟩
        have z20 : W19.heap.size ≤ w20.heap.size := hb.size
        have A20 := hide ((unhide A19).below hb)
        have P20 := hide ((unhide P19).below hb)
        have G20 := hide (own_below (unhide G19) hb)
        have R20 := hide ((unhide R19).below hb)
        have L20 := hide ((unhide L19).below hb)
        have K20 := hide (own_below (unhide K19) hb)
        have V20 := hide ((unhide V19).below hb)
        have M20 := hide (own_below (unhide M19) hb)
        have Z20 := hide ((unhide Z19).below hb)
        have T20 := hide ((unhide T19).below hb)
        have N20 := hide (own_below (unhide N19) hb)
        have Q20 := hide ((unhide Q19).below hb)
        have B20 := hide (below_step (unhide B19) hb (by omega))
        clear hb A19 P19 G19 R19 L19 K19 V19 M19 Z19 T19 N19 Q19 B19
        have hH := neq_head 2 u2 i2 e2
        have cq0 := (unhide Q20).cell 0
        have cq1 := (unhide Q20).cell 1
        have cq2 := (unhide Q20).cell 2
        have cq3 := (unhide Q20).cell 3
        have cq4 := (unhide Q20).cell 4
        simp at cq0 cq1 cq2 cq3 cq4
        have lcq : b19 < w20.heap.size := by omega
        have cz0 := (unhide Z20).cell 0
        have cz1 := (unhide Z20).cell 1
        simp at cz0 cz1
        have lcz : b13 < w20.heap.size := by omega
        go_wp2_with fail
        clear cq0 cq1 cq2 cq3 cq4 lcq cz0 cz1 lcz
        clear hH
        refine (implRead_ex a3 c3 (goneWords u3 e3) hc3 (goneWords_len _ _) _ (intsAt_own1 (unhide M20)) (gone_back u3 e3 (unhide HC)).2).mono ?_
        rintro e w21 ⟨⟨vr, rfl, hor⟩, hb⟩
        have z21 : w20.heap.size ≤ w21.heap.size := hb.size
        have A21 := hide ((unhide A20).below hb)
        have P21 := hide ((unhide P20).below hb)
        have G21 := hide (own_below (unhide G20) hb)
        have R21 := hide ((unhide R20).below hb)
        have L21 := hide ((unhide L20).below hb)
        have K21 := hide (own_below (unhide K20) hb)
        have V21 := hide ((unhide V20).below hb)
        have M21 := hide (own_below (unhide M20) hb)
        have Z21 := hide ((unhide Z20).below hb)
        have T21 := hide ((unhide T20).below hb)
        have N21 := hide (own_below (unhide N20) hb)
        have Q21 := hide ((unhide Q20).below hb)
        have B21 := hide (below_step (unhide B20) hb (by omega))
        clear hb A20 P20 G20 R20 L20 K20 V20 M20 Z20 T20 N20 Q20 B20
        rw [(gone_back u3 e3 (unhide HC)).1]
        obtain ⟨a6, c6, rfl, -, -, -, -⟩ := intsAt_own hor
        clear hor
        have f0 : ∀ w : World, (Instr.field 45 (.agg #[.int .i64 0, .int .i64 3, .int .i64 u3, .int .i64 0, .int .i64 e3, .int .i64 0, .bool false, .int .i64 0, .string ⟨#[]⟩, .int .i64 0, .slice a6 0 c6]) 0).run Try.prog w = .ok (.int .i64 0) w := fun w => by kernel_rfl
        have cz0 := (unhide Z21).cell 0
        have cz1 := (unhide Z21).cell 1
        simp at cz0 cz1
        have lcz : b13 < w21.heap.size := by omega
        go_wp2_with fail
        clear cz0 cz1 lcz
        refine (implRead_ex a3 c3 (goneWords u3 e3) hc3 (goneWords_len _ _) _ (intsAt_own1 (unhide M21)) (gone_back u3 e3 (unhide HC)).2).mono ?_
        rintro e w22 ⟨⟨vr, rfl, hor⟩, hb⟩
        have z22 : w21.heap.size ≤ w22.heap.size := hb.size
        have A22 := hide ((unhide A21).below hb)
        have P22 := hide ((unhide P21).below hb)
        have G22 := hide (own_below (unhide G21) hb)
        have R22 := hide ((unhide R21).below hb)
        have L22 := hide ((unhide L21).below hb)
        have K22 := hide (own_below (unhide K21) hb)
        have V22 := hide ((unhide V21).below hb)
        have M22 := hide (own_below (unhide M21) hb)
        have Z22 := hide ((unhide Z21).below hb)
        have T22 := hide ((unhide T21).below hb)
        have N22 := hide (own_below (unhide N21) hb)
        have Q22 := hide ((unhide Q21).below hb)
        have B22 := hide (below_step (unhide B21) hb (by omega))
        clear hb A21 P21 G21 R21 L21 K21 V21 M21 Z21 T21 N21 Q21 B21
        rw [(gone_back u3 e3 (unhide HC)).1]
        obtain ⟨a7, c7, rfl, -, -, -, -⟩ := intsAt_own hor
        clear hor
        have f1 : ∀ w : World, (Instr.field 45 (.agg #[.int .i64 0, .int .i64 3, .int .i64 u3, .int .i64 0, .int .i64 e3, .int .i64 0, .bool false, .int .i64 0, .string ⟨#[]⟩, .int .i64 0, .slice a7 0 c7]) 1).run Try.prog w = .ok (.agg #[.int .i64 3, .int .i64 u3, .int .i64 0, .int .i64 e3, .int .i64 0, .bool false, .int .i64 0, .string ⟨#[]⟩, .int .i64 0, .slice a7 0 c7]) w := fun w => by kernel_rfl
        have f2 : ∀ w : World, (Instr.field 43 (.agg #[.int .i64 3, .int .i64 u3, .int .i64 0, .int .i64 e3, .int .i64 0, .bool false, .int .i64 0, .string ⟨#[]⟩, .int .i64 0, .slice a7 0 c7]) 0).run Try.prog w = .ok (.agg #[.int .i64 3, .int .i64 u3, .int .i64 0, .int .i64 e3]) w := fun w => by kernel_rfl
        have hE := eql_head 3 u3 0 e3
        go_wp2_with fail
        go_ret
        exact ⟨rfl, unhide B22⟩
      · have eA : ((nodePCode u d pa nm.data.toList sz e) == 0) = true := by simpa using heA
        have eB : ((dataCode u2 i2 l e2) == 0) = true := by simpa using heB
        have eC : ((goneCode u3 e3) != 0) = true := by simpa using heC
        clear heA heB heC
        have cr0 := (unhide R14).cell 0
        have cr1 := (unhide R14).cell 1
        simp at cr0 cr1
        have lcr : b5 < w34.heap.size := by omega
        go_wp2_with fail
        clear cr0 cr1 lcr
        refine (implRead_ex a1 c1 (nodeWords u d pa nm.data.toList sz e) hc1 (nodeWords_len _ _ _ _ _ _) _ (intsAt_own1 (unhide G14)) (node_back u d pa nm sz e (unhide HA)).2).mono ?_
        rintro e w15 ⟨⟨vr, rfl, hor⟩, hb⟩
        have z15 : w34.heap.size ≤ w15.heap.size := hb.size
        have A15 := hide ((unhide A14).below hb)
        have P15 := hide ((unhide P14).below hb)
        have G15 := hide (own_below (unhide G14) hb)
        have R15 := hide ((unhide R14).below hb)
        have L15 := hide ((unhide L14).below hb)
        have K15 := hide (own_below (unhide K14) hb)
        have V15 := hide ((unhide V14).below hb)
        have M15 := hide (own_below (unhide M14) hb)
        have Z15 := hide ((unhide Z14).below hb)
        have B15 := hide (below_step (unhide B14) hb (by omega))
        clear hb A14 P14 G14 R14 L14 K14 V14 M14 Z14 B14
        rw [(node_back u d pa nm sz e (unhide HA)).1]
        obtain ⟨a4, c4, rfl, -, -, -, -⟩ := intsAt_own hor
        clear hor
        have hN := neq_node u d pa nm sz
        have hH := neq_head 1 u 0 e
        have cp0 := (unhide P15).cell 0
        have cp1 := (unhide P15).cell 1
        have cp2 := (unhide P15).cell 2
        have cp3 := (unhide P15).cell 3
        have cp4 := (unhide P15).cell 4
        simp at cp0 cp1 cp2 cp3 cp4
        have lcp : b2 < w15.heap.size := by omega
        have cv0 := (unhide V15).cell 0
        have cv1 := (unhide V15).cell 1
        simp at cv0 cv1
        have lcv : b9 < w15.heap.size := by omega
        go_wp2_with fail
        clear cp0 cp1 cp2 cp3 cp4 lcp cv0 cv1 lcv
        clear hN hH
        obtain ⟨W16, hW, z16, hbx, hx⟩ := boxes1 w15 [.int .i64 0, .int .i64 1, .int .i64 u, .int .i64 0, .int .i64 e, .int .i64 u, .bool d, .int .i64 pa, .string nm, .int .i64 sz, .slice a4 0 c4] 45
        rw [← hW]
        clear hW
        have A16 := hide ((unhide A15).below (unhide hbx))
        have P16 := hide ((unhide P15).below (unhide hbx))
        have G16 := hide (own_below (unhide G15) (unhide hbx))
        have R16 := hide ((unhide R15).below (unhide hbx))
        have L16 := hide ((unhide L15).below (unhide hbx))
        have K16 := hide (own_below (unhide K15) (unhide hbx))
        have V16 := hide ((unhide V15).below (unhide hbx))
        have M16 := hide (own_below (unhide M15) (unhide hbx))
        have Z16 := hide ((unhide Z15).below (unhide hbx))
        have B16 := hide (below_step (unhide B15) (unhide hbx) (by omega))
        have T16 := hx
        clear hbx hx A15 P15 G15 R15 L15 K15 V15 M15 Z15 B15
        have u16 : w15.heap.size < W16.heap.size := by omega
        generalize w15.heap.size = b16 at *
        refine (implRead_ex a2 c2 (dataWords u2 i2 l e2) hc2 (dataWords_len _ _ _ _) _ (intsAt_own1 (unhide K16)) (data_back u2 i2 l e2 (unhide HB)).2).mono ?_
        rintro e w17 ⟨⟨vr, rfl, hor⟩, hb⟩
        have z17 : W16.heap.size ≤ w17.heap.size := hb.size
        have A17 := hide ((unhide A16).below hb)
        have P17 := hide ((unhide P16).below hb)
        have G17 := hide (own_below (unhide G16) hb)
        have R17 := hide ((unhide R16).below hb)
        have L17 := hide ((unhide L16).below hb)
        have K17 := hide (own_below (unhide K16) hb)
        have V17 := hide ((unhide V16).below hb)
        have M17 := hide (own_below (unhide M16) hb)
        have Z17 := hide ((unhide Z16).below hb)
        have T17 := hide ((unhide T16).below hb)
        have B17 := hide (below_step (unhide B16) hb (by omega))
        clear hb A16 P16 G16 R16 L16 K16 V16 M16 Z16 T16 B16
        rw [(data_back u2 i2 l e2 (unhide HB)).1]
        obtain ⟨a5, c5, rfl, -, -, -, -⟩ := intsAt_own hor
        have N18 := hide hor
        have LN := hide (fun q hq => World.ownsRow.lt hor q hq)
        clear hor
        go_wp2_with fail
        obtain ⟨W19, hW, z19, hbx, hx⟩ := boxes1 w17 [.int .i64 0, .int .i64 2, .int .i64 u2, .int .i64 i2, .int .i64 e2, .int .i64 0, .bool false, .int .i64 0, .string ⟨#[]⟩, .int .i64 0, .slice a5 l.length c5] 45
        rw [← hW]
        clear hW
        have A19 := hide ((unhide A17).below (unhide hbx))
        have P19 := hide ((unhide P17).below (unhide hbx))
        have G19 := hide (own_below (unhide G17) (unhide hbx))
        have R19 := hide ((unhide R17).below (unhide hbx))
        have L19 := hide ((unhide L17).below (unhide hbx))
        have K19 := hide (own_below (unhide K17) (unhide hbx))
        have V19 := hide ((unhide V17).below (unhide hbx))
        have M19 := hide (own_below (unhide M17) (unhide hbx))
        have Z19 := hide ((unhide Z17).below (unhide hbx))
        have T19 := hide ((unhide T17).below (unhide hbx))
        have N19 := hide (own_below (unhide N18) (unhide hbx))
        have B19 := hide (below_step (unhide B17) (unhide hbx) (by omega))
        have Q19 := hx
        clear hbx hx A17 P17 G17 R17 L17 K17 V17 M17 Z17 T17 N18 B17
        have u19 : w17.heap.size < W19.heap.size := by omega
        generalize w17.heap.size = b19 at *
        refine (lwNums_same a5 ad c5 cp l _ (intsAt_own1 (unhide N19)) (unhide L19) hl6).mono ?_
        rintro e w20 ⟨rfl, hb⟩
        have z20 : W19.heap.size ≤ w20.heap.size := hb.size
        have A20 := hide ((unhide A19).below hb)
        have P20 := hide ((unhide P19).below hb)
        have G20 := hide (own_below (unhide G19) hb)
        have R20 := hide ((unhide R19).below hb)
        have L20 := hide ((unhide L19).below hb)
        have K20 := hide (own_below (unhide K19) hb)
        have V20 := hide ((unhide V19).below hb)
        have M20 := hide (own_below (unhide M19) hb)
        have Z20 := hide ((unhide Z19).below hb)
        have T20 := hide ((unhide T19).below hb)
        have N20 := hide (own_below (unhide N19) hb)
        have Q20 := hide ((unhide Q19).below hb)
        have B20 := hide (below_step (unhide B19) hb (by omega))
        clear hb A19 P19 G19 R19 L19 K19 V19 M19 Z19 T19 N19 Q19 B19
        have hH := neq_head 2 u2 i2 e2
        have cq0 := (unhide Q20).cell 0
        have cq1 := (unhide Q20).cell 1
        have cq2 := (unhide Q20).cell 2
        have cq3 := (unhide Q20).cell 3
        have cq4 := (unhide Q20).cell 4
        simp at cq0 cq1 cq2 cq3 cq4
        have lcq : b19 < w20.heap.size := by omega
        have cz0 := (unhide Z20).cell 0
        have cz1 := (unhide Z20).cell 1
        simp at cz0 cz1
        have lcz : b13 < w20.heap.size := by omega
        go_wp2_with fail
        clear cq0 cq1 cq2 cq3 cq4 lcq cz0 cz1 lcz
        clear hH
        go_ret
        exact ⟨rfl, unhide B20⟩
    · by_cases heC : (goneCode u3 e3) = 0
      · have HC := hide heC
        have eA : ((nodePCode u d pa nm.data.toList sz e) == 0) = true := by simpa using heA
        have eB : ((dataCode u2 i2 l e2) == 0) = false := by simpa using heB
        have eC : ((goneCode u3 e3) != 0) = false := by simpa using heC
        clear heA heB heC
        have cr0 := (unhide R14).cell 0
        have cr1 := (unhide R14).cell 1
        simp at cr0 cr1
        have lcr : b5 < w34.heap.size := by omega
        go_wp2_with fail
        clear cr0 cr1 lcr
        refine (implRead_ex a1 c1 (nodeWords u d pa nm.data.toList sz e) hc1 (nodeWords_len _ _ _ _ _ _) _ (intsAt_own1 (unhide G14)) (node_back u d pa nm sz e (unhide HA)).2).mono ?_
        rintro e w15 ⟨⟨vr, rfl, hor⟩, hb⟩
        have z15 : w34.heap.size ≤ w15.heap.size := hb.size
        have A15 := hide ((unhide A14).below hb)
        have P15 := hide ((unhide P14).below hb)
        have G15 := hide (own_below (unhide G14) hb)
        have R15 := hide ((unhide R14).below hb)
        have L15 := hide ((unhide L14).below hb)
        have K15 := hide (own_below (unhide K14) hb)
        have V15 := hide ((unhide V14).below hb)
        have M15 := hide (own_below (unhide M14) hb)
        have Z15 := hide ((unhide Z14).below hb)
        have B15 := hide (below_step (unhide B14) hb (by omega))
        clear hb A14 P14 G14 R14 L14 K14 V14 M14 Z14 B14
        rw [(node_back u d pa nm sz e (unhide HA)).1]
        obtain ⟨a4, c4, rfl, -, -, -, -⟩ := intsAt_own hor
        clear hor
        have hN := neq_node u d pa nm sz
        have hH := neq_head 1 u 0 e
        have cp0 := (unhide P15).cell 0
        have cp1 := (unhide P15).cell 1
        have cp2 := (unhide P15).cell 2
        have cp3 := (unhide P15).cell 3
        have cp4 := (unhide P15).cell 4
        simp at cp0 cp1 cp2 cp3 cp4
        have lcp : b2 < w15.heap.size := by omega
        have cv0 := (unhide V15).cell 0
        have cv1 := (unhide V15).cell 1
        simp at cv0 cv1
        have lcv : b9 < w15.heap.size := by omega
        have cz0 := (unhide Z15).cell 0
        have cz1 := (unhide Z15).cell 1
        simp at cz0 cz1
        have lcz : b13 < w15.heap.size := by omega
        go_wp2_with fail
        clear cp0 cp1 cp2 cp3 cp4 lcp cv0 cv1 lcv cz0 cz1 lcz
        clear hN hH
        obtain ⟨W16, hW, z16, hbx, hx⟩ := boxes1 w15 [.int .i64 0, .int .i64 1, .int .i64 u, .int .i64 0, .int .i64 e, .int .i64 u, .bool d, .int .i64 pa, .string nm, .int .i64 sz, .slice a4 0 c4] 45
        rw [← hW]
        clear hW
        have A16 := hide ((unhide A15).below (unhide hbx))
        have P16 := hide ((unhide P15).below (unhide hbx))
        have G16 := hide (own_below (unhide G15) (unhide hbx))
        have R16 := hide ((unhide R15).below (unhide hbx))
        have L16 := hide ((unhide L15).below (unhide hbx))
        have K16 := hide (own_below (unhide K15) (unhide hbx))
        have V16 := hide ((unhide V15).below (unhide hbx))
        have M16 := hide (own_below (unhide M15) (unhide hbx))
        have Z16 := hide ((unhide Z15).below (unhide hbx))
        have B16 := hide (below_step (unhide B15) (unhide hbx) (by omega))
        have T16 := hx
        clear hbx hx A15 P15 G15 R15 L15 K15 V15 M15 Z15 B15
        have u16 : w15.heap.size < W16.heap.size := by omega
        generalize w15.heap.size = b16 at *
        refine (implRead_ex a3 c3 (goneWords u3 e3) hc3 (goneWords_len _ _) _ (intsAt_own1 (unhide M16)) (gone_back u3 e3 (unhide HC)).2).mono ?_
        rintro e w17 ⟨⟨vr, rfl, hor⟩, hb⟩
        have z17 : W16.heap.size ≤ w17.heap.size := hb.size
        have A17 := hide ((unhide A16).below hb)
        have P17 := hide ((unhide P16).below hb)
        have G17 := hide (own_below (unhide G16) hb)
        have R17 := hide ((unhide R16).below hb)
        have L17 := hide ((unhide L16).below hb)
        have K17 := hide (own_below (unhide K16) hb)
        have V17 := hide ((unhide V16).below hb)
        have M17 := hide (own_below (unhide M16) hb)
        have Z17 := hide ((unhide Z16).below hb)
        have T17 := hide ((unhide T16).below hb)
        have B17 := hide (below_step (unhide B16) hb (by omega))
        clear hb A16 P16 G16 R16 L16 K16 V16 M16 Z16 T16 B16
        rw [(gone_back u3 e3 (unhide HC)).1]
        obtain ⟨a6, c6, rfl, -, -, -, -⟩ := intsAt_own hor
        clear hor
        have f0 : ∀ w : World, (Instr.field 45 (.agg #[.int .i64 0, .int .i64 3, .int .i64 u3, .int .i64 0, .int .i64 e3, .int .i64 0, .bool false, .int .i64 0, .string ⟨#[]⟩, .int .i64 0, .slice a6 0 c6]) 0).run Try.prog w = .ok (.int .i64 0) w := fun w => by kernel_rfl
        have cz0 := (unhide Z17).cell 0
        have cz1 := (unhide Z17).cell 1
        simp at cz0 cz1
        have lcz : b13 < w17.heap.size := by omega
        go_wp2_with fail
        clear cz0 cz1 lcz
        refine (implRead_ex a3 c3 (goneWords u3 e3) hc3 (goneWords_len _ _) _ (intsAt_own1 (unhide M17)) (gone_back u3 e3 (unhide HC)).2).mono ?_
        rintro e w18 ⟨⟨vr, rfl, hor⟩, hb⟩
        have z18 : w17.heap.size ≤ w18.heap.size := hb.size
        have A18 := hide ((unhide A17).below hb)
        have P18 := hide ((unhide P17).below hb)
        have G18 := hide (own_below (unhide G17) hb)
        have R18 := hide ((unhide R17).below hb)
        have L18 := hide ((unhide L17).below hb)
        have K18 := hide (own_below (unhide K17) hb)
        have V18 := hide ((unhide V17).below hb)
        have M18 := hide (own_below (unhide M17) hb)
        have Z18 := hide ((unhide Z17).below hb)
        have T18 := hide ((unhide T17).below hb)
        have B18 := hide (below_step (unhide B17) hb (by omega))
        clear hb A17 P17 G17 R17 L17 K17 V17 M17 Z17 T17 B17
        rw [(gone_back u3 e3 (unhide HC)).1]
        obtain ⟨a7, c7, rfl, -, -, -, -⟩ := intsAt_own hor
        clear hor
        have f1 : ∀ w : World, (Instr.field 45 (.agg #[.int .i64 0, .int .i64 3, .int .i64 u3, .int .i64 0, .int .i64 e3, .int .i64 0, .bool false, .int .i64 0, .string ⟨#[]⟩, .int .i64 0, .slice a7 0 c7]) 1).run Try.prog w = .ok (.agg #[.int .i64 3, .int .i64 u3, .int .i64 0, .int .i64 e3, .int .i64 0, .bool false, .int .i64 0, .string ⟨#[]⟩, .int .i64 0, .slice a7 0 c7]) w := fun w => by kernel_rfl
        have f2 : ∀ w : World, (Instr.field 43 (.agg #[.int .i64 3, .int .i64 u3, .int .i64 0, .int .i64 e3, .int .i64 0, .bool false, .int .i64 0, .string ⟨#[]⟩, .int .i64 0, .slice a7 0 c7]) 0).run Try.prog w = .ok (.agg #[.int .i64 3, .int .i64 u3, .int .i64 0, .int .i64 e3]) w := fun w => by kernel_rfl
        have hE := eql_head 3 u3 0 e3
        go_wp2_with fail
        go_ret
        exact ⟨rfl, unhide B18⟩
      · have eA : ((nodePCode u d pa nm.data.toList sz e) == 0) = true := by simpa using heA
        have eB : ((dataCode u2 i2 l e2) == 0) = false := by simpa using heB
        have eC : ((goneCode u3 e3) != 0) = true := by simpa using heC
        clear heA heB heC
        have cr0 := (unhide R14).cell 0
        have cr1 := (unhide R14).cell 1
        simp at cr0 cr1
        have lcr : b5 < w34.heap.size := by omega
        go_wp2_with fail
        clear cr0 cr1 lcr
        refine (implRead_ex a1 c1 (nodeWords u d pa nm.data.toList sz e) hc1 (nodeWords_len _ _ _ _ _ _) _ (intsAt_own1 (unhide G14)) (node_back u d pa nm sz e (unhide HA)).2).mono ?_
        rintro e w15 ⟨⟨vr, rfl, hor⟩, hb⟩
        have z15 : w34.heap.size ≤ w15.heap.size := hb.size
        have A15 := hide ((unhide A14).below hb)
        have P15 := hide ((unhide P14).below hb)
        have G15 := hide (own_below (unhide G14) hb)
        have R15 := hide ((unhide R14).below hb)
        have L15 := hide ((unhide L14).below hb)
        have K15 := hide (own_below (unhide K14) hb)
        have V15 := hide ((unhide V14).below hb)
        have M15 := hide (own_below (unhide M14) hb)
        have Z15 := hide ((unhide Z14).below hb)
        have B15 := hide (below_step (unhide B14) hb (by omega))
        clear hb A14 P14 G14 R14 L14 K14 V14 M14 Z14 B14
        rw [(node_back u d pa nm sz e (unhide HA)).1]
        obtain ⟨a4, c4, rfl, -, -, -, -⟩ := intsAt_own hor
        clear hor
        have hN := neq_node u d pa nm sz
        have hH := neq_head 1 u 0 e
        have cp0 := (unhide P15).cell 0
        have cp1 := (unhide P15).cell 1
        have cp2 := (unhide P15).cell 2
        have cp3 := (unhide P15).cell 3
        have cp4 := (unhide P15).cell 4
        simp at cp0 cp1 cp2 cp3 cp4
        have lcp : b2 < w15.heap.size := by omega
        have cv0 := (unhide V15).cell 0
        have cv1 := (unhide V15).cell 1
        simp at cv0 cv1
        have lcv : b9 < w15.heap.size := by omega
        have cz0 := (unhide Z15).cell 0
        have cz1 := (unhide Z15).cell 1
        simp at cz0 cz1
        have lcz : b13 < w15.heap.size := by omega
        go_wp2_with fail
        clear cp0 cp1 cp2 cp3 cp4 lcp cv0 cv1 lcv cz0 cz1 lcz
        clear hN hH
        go_ret
        exact ⟨rfl, (unhide B15).alloc (by omega) _⟩
  · by_cases heB : (dataCode u2 i2 l e2) = 0
    · have HB := hide heB
      by_cases heC : (goneCode u3 e3) = 0
      · have HC := hide heC
        have eA : ((nodePCode u d pa nm.data.toList sz e) == 0) = false := by simpa using heA
        have eB : ((dataCode u2 i2 l e2) == 0) = true := by simpa using heB
        have eC : ((goneCode u3 e3) != 0) = false := by simpa using heC
        clear heA heB heC
        have cr0 := (unhide R14).cell 0
        have cr1 := (unhide R14).cell 1
        simp at cr0 cr1
        have lcr : b5 < w34.heap.size := by omega
        have cv0 := (unhide V14).cell 0
        have cv1 := (unhide V14).cell 1
        simp at cv0 cv1
        have lcv : b9 < w34.heap.size := by omega
        go_wp2_with fail
        clear cr0 cr1 lcr cv0 cv1 lcv
        refine (implRead_ex a2 c2 (dataWords u2 i2 l e2) hc2 (dataWords_len _ _ _ _) _ (intsAt_own1 (unhide K14)) (data_back u2 i2 l e2 (unhide HB)).2).mono ?_
        rintro e w15 ⟨⟨vr, rfl, hor⟩, hb⟩
        have z15 : w34.heap.size ≤ w15.heap.size := hb.size
        have A15 := hide ((unhide A14).below hb)
        have P15 := hide ((unhide P14).below hb)
        have G15 := hide (own_below (unhide G14) hb)
        have R15 := hide ((unhide R14).below hb)
        have L15 := hide ((unhide L14).below hb)
        have K15 := hide (own_below (unhide K14) hb)
        have V15 := hide ((unhide V14).below hb)
        have M15 := hide (own_below (unhide M14) hb)
        have Z15 := hide ((unhide Z14).below hb)
        have B15 := hide (below_step (unhide B14) hb (by omega))
        clear hb A14 P14 G14 R14 L14 K14 V14 M14 Z14 B14
        rw [(data_back u2 i2 l e2 (unhide HB)).1]
        obtain ⟨a5, c5, rfl, -, -, -, -⟩ := intsAt_own hor
        have N16 := hide hor
        have LN := hide (fun q hq => World.ownsRow.lt hor q hq)
        clear hor
        go_wp2_with fail
        obtain ⟨W17, hW, z17, hbx, hx⟩ := boxes1 w15 [.int .i64 0, .int .i64 2, .int .i64 u2, .int .i64 i2, .int .i64 e2, .int .i64 0, .bool false, .int .i64 0, .string ⟨#[]⟩, .int .i64 0, .slice a5 l.length c5] 45
        rw [← hW]
        clear hW
        have A17 := hide ((unhide A15).below (unhide hbx))
        have P17 := hide ((unhide P15).below (unhide hbx))
        have G17 := hide (own_below (unhide G15) (unhide hbx))
        have R17 := hide ((unhide R15).below (unhide hbx))
        have L17 := hide ((unhide L15).below (unhide hbx))
        have K17 := hide (own_below (unhide K15) (unhide hbx))
        have V17 := hide ((unhide V15).below (unhide hbx))
        have M17 := hide (own_below (unhide M15) (unhide hbx))
        have Z17 := hide ((unhide Z15).below (unhide hbx))
        have N17 := hide (own_below (unhide N16) (unhide hbx))
        have B17 := hide (below_step (unhide B15) (unhide hbx) (by omega))
        have Q17 := hx
        clear hbx hx A15 P15 G15 R15 L15 K15 V15 M15 Z15 N16 B15
        have u17 : w15.heap.size < W17.heap.size := by omega
        generalize w15.heap.size = b17 at *
        refine (lwNums_same a5 ad c5 cp l _ (intsAt_own1 (unhide N17)) (unhide L17) hl6).mono ?_
        rintro e w18 ⟨rfl, hb⟩
        have z18 : W17.heap.size ≤ w18.heap.size := hb.size
        have A18 := hide ((unhide A17).below hb)
        have P18 := hide ((unhide P17).below hb)
        have G18 := hide (own_below (unhide G17) hb)
        have R18 := hide ((unhide R17).below hb)
        have L18 := hide ((unhide L17).below hb)
        have K18 := hide (own_below (unhide K17) hb)
        have V18 := hide ((unhide V17).below hb)
        have M18 := hide (own_below (unhide M17) hb)
        have Z18 := hide ((unhide Z17).below hb)
        have N18 := hide (own_below (unhide N17) hb)
        have Q18 := hide ((unhide Q17).below hb)
        have B18 := hide (below_step (unhide B17) hb (by omega))
        clear hb A17 P17 G17 R17 L17 K17 V17 M17 Z17 N17 Q17 B17
        have hH := neq_head 2 u2 i2 e2
        have cq0 := (unhide Q18).cell 0
        have cq1 := (unhide Q18).cell 1
        have cq2 := (unhide Q18).cell 2
        have cq3 := (unhide Q18).cell 3
        have cq4 := (unhide Q18).cell 4
        simp at cq0 cq1 cq2 cq3 cq4
        have lcq : b17 < w18.heap.size := by omega
        have cz0 := (unhide Z18).cell 0
        have cz1 := (unhide Z18).cell 1
        simp at cz0 cz1
        have lcz : b13 < w18.heap.size := by omega
        go_wp2_with fail
        clear cq0 cq1 cq2 cq3 cq4 lcq cz0 cz1 lcz
        clear hH
        refine (implRead_ex a3 c3 (goneWords u3 e3) hc3 (goneWords_len _ _) _ (intsAt_own1 (unhide M18)) (gone_back u3 e3 (unhide HC)).2).mono ?_
        rintro e w19 ⟨⟨vr, rfl, hor⟩, hb⟩
        have z19 : w18.heap.size ≤ w19.heap.size := hb.size
        have A19 := hide ((unhide A18).below hb)
        have P19 := hide ((unhide P18).below hb)
        have G19 := hide (own_below (unhide G18) hb)
        have R19 := hide ((unhide R18).below hb)
        have L19 := hide ((unhide L18).below hb)
        have K19 := hide (own_below (unhide K18) hb)
        have V19 := hide ((unhide V18).below hb)
        have M19 := hide (own_below (unhide M18) hb)
        have Z19 := hide ((unhide Z18).below hb)
        have N19 := hide (own_below (unhide N18) hb)
        have Q19 := hide ((unhide Q18).below hb)
        have B19 := hide (below_step (unhide B18) hb (by omega))
        clear hb A18 P18 G18 R18 L18 K18 V18 M18 Z18 N18 Q18 B18
        rw [(gone_back u3 e3 (unhide HC)).1]
        obtain ⟨a6, c6, rfl, -, -, -, -⟩ := intsAt_own hor
        clear hor
        have f0 : ∀ w : World, (Instr.field 45 (.agg #[.int .i64 0, .int .i64 3, .int .i64 u3, .int .i64 0, .int .i64 e3, .int .i64 0, .bool false, .int .i64 0, .string ⟨#[]⟩, .int .i64 0, .slice a6 0 c6]) 0).run Try.prog w = .ok (.int .i64 0) w := fun w => by kernel_rfl
        have cz0 := (unhide Z19).cell 0
        have cz1 := (unhide Z19).cell 1
        simp at cz0 cz1
        have lcz : b13 < w19.heap.size := by omega
        go_wp2_with fail
        clear cz0 cz1 lcz
        refine (implRead_ex a3 c3 (goneWords u3 e3) hc3 (goneWords_len _ _) _ (intsAt_own1 (unhide M19)) (gone_back u3 e3 (unhide HC)).2).mono ?_
        rintro e w20 ⟨⟨vr, rfl, hor⟩, hb⟩
        have z20 : w19.heap.size ≤ w20.heap.size := hb.size
        have A20 := hide ((unhide A19).below hb)
        have P20 := hide ((unhide P19).below hb)
        have G20 := hide (own_below (unhide G19) hb)
        have R20 := hide ((unhide R19).below hb)
        have L20 := hide ((unhide L19).below hb)
        have K20 := hide (own_below (unhide K19) hb)
        have V20 := hide ((unhide V19).below hb)
        have M20 := hide (own_below (unhide M19) hb)
        have Z20 := hide ((unhide Z19).below hb)
        have N20 := hide (own_below (unhide N19) hb)
        have Q20 := hide ((unhide Q19).below hb)
        have B20 := hide (below_step (unhide B19) hb (by omega))
        clear hb A19 P19 G19 R19 L19 K19 V19 M19 Z19 N19 Q19 B19
        rw [(gone_back u3 e3 (unhide HC)).1]
        obtain ⟨a7, c7, rfl, -, -, -, -⟩ := intsAt_own hor
        clear hor
        have f1 : ∀ w : World, (Instr.field 45 (.agg #[.int .i64 0, .int .i64 3, .int .i64 u3, .int .i64 0, .int .i64 e3, .int .i64 0, .bool false, .int .i64 0, .string ⟨#[]⟩, .int .i64 0, .slice a7 0 c7]) 1).run Try.prog w = .ok (.agg #[.int .i64 3, .int .i64 u3, .int .i64 0, .int .i64 e3, .int .i64 0, .bool false, .int .i64 0, .string ⟨#[]⟩, .int .i64 0, .slice a7 0 c7]) w := fun w => by kernel_rfl
        have f2 : ∀ w : World, (Instr.field 43 (.agg #[.int .i64 3, .int .i64 u3, .int .i64 0, .int .i64 e3, .int .i64 0, .bool false, .int .i64 0, .string ⟨#[]⟩, .int .i64 0, .slice a7 0 c7]) 0).run Try.prog w = .ok (.agg #[.int .i64 3, .int .i64 u3, .int .i64 0, .int .i64 e3]) w := fun w => by kernel_rfl
        have hE := eql_head 3 u3 0 e3
        go_wp2_with fail
        go_ret
        exact ⟨rfl, unhide B20⟩
      · have eA : ((nodePCode u d pa nm.data.toList sz e) == 0) = false := by simpa using heA
        have eB : ((dataCode u2 i2 l e2) == 0) = true := by simpa using heB
        have eC : ((goneCode u3 e3) != 0) = true := by simpa using heC
        clear heA heB heC
        have cr0 := (unhide R14).cell 0
        have cr1 := (unhide R14).cell 1
        simp at cr0 cr1
        have lcr : b5 < w34.heap.size := by omega
        have cv0 := (unhide V14).cell 0
        have cv1 := (unhide V14).cell 1
        simp at cv0 cv1
        have lcv : b9 < w34.heap.size := by omega
        go_wp2_with fail
        clear cr0 cr1 lcr cv0 cv1 lcv
        refine (implRead_ex a2 c2 (dataWords u2 i2 l e2) hc2 (dataWords_len _ _ _ _) _ (intsAt_own1 (unhide K14)) (data_back u2 i2 l e2 (unhide HB)).2).mono ?_
        rintro e w15 ⟨⟨vr, rfl, hor⟩, hb⟩
        have z15 : w34.heap.size ≤ w15.heap.size := hb.size
        have A15 := hide ((unhide A14).below hb)
        have P15 := hide ((unhide P14).below hb)
        have G15 := hide (own_below (unhide G14) hb)
        have R15 := hide ((unhide R14).below hb)
        have L15 := hide ((unhide L14).below hb)
        have K15 := hide (own_below (unhide K14) hb)
        have V15 := hide ((unhide V14).below hb)
        have M15 := hide (own_below (unhide M14) hb)
        have Z15 := hide ((unhide Z14).below hb)
        have B15 := hide (below_step (unhide B14) hb (by omega))
        clear hb A14 P14 G14 R14 L14 K14 V14 M14 Z14 B14
        rw [(data_back u2 i2 l e2 (unhide HB)).1]
        obtain ⟨a5, c5, rfl, -, -, -, -⟩ := intsAt_own hor
        have N16 := hide hor
        have LN := hide (fun q hq => World.ownsRow.lt hor q hq)
        clear hor
        go_wp2_with fail
        obtain ⟨W17, hW, z17, hbx, hx⟩ := boxes1 w15 [.int .i64 0, .int .i64 2, .int .i64 u2, .int .i64 i2, .int .i64 e2, .int .i64 0, .bool false, .int .i64 0, .string ⟨#[]⟩, .int .i64 0, .slice a5 l.length c5] 45
        rw [← hW]
        clear hW
        have A17 := hide ((unhide A15).below (unhide hbx))
        have P17 := hide ((unhide P15).below (unhide hbx))
        have G17 := hide (own_below (unhide G15) (unhide hbx))
        have R17 := hide ((unhide R15).below (unhide hbx))
        have L17 := hide ((unhide L15).below (unhide hbx))
        have K17 := hide (own_below (unhide K15) (unhide hbx))
        have V17 := hide ((unhide V15).below (unhide hbx))
        have M17 := hide (own_below (unhide M15) (unhide hbx))
        have Z17 := hide ((unhide Z15).below (unhide hbx))
        have N17 := hide (own_below (unhide N16) (unhide hbx))
        have B17 := hide (below_step (unhide B15) (unhide hbx) (by omega))
        have Q17 := hx
        clear hbx hx A15 P15 G15 R15 L15 K15 V15 M15 Z15 N16 B15
        have u17 : w15.heap.size < W17.heap.size := by omega
        generalize w15.heap.size = b17 at *
        refine (lwNums_same a5 ad c5 cp l _ (intsAt_own1 (unhide N17)) (unhide L17) hl6).mono ?_
        rintro e w18 ⟨rfl, hb⟩
        have z18 : W17.heap.size ≤ w18.heap.size := hb.size
        have A18 := hide ((unhide A17).below hb)
        have P18 := hide ((unhide P17).below hb)
        have G18 := hide (own_below (unhide G17) hb)
        have R18 := hide ((unhide R17).below hb)
        have L18 := hide ((unhide L17).below hb)
        have K18 := hide (own_below (unhide K17) hb)
        have V18 := hide ((unhide V17).below hb)
        have M18 := hide (own_below (unhide M17) hb)
        have Z18 := hide ((unhide Z17).below hb)
        have N18 := hide (own_below (unhide N17) hb)
        have Q18 := hide ((unhide Q17).below hb)
        have B18 := hide (below_step (unhide B17) hb (by omega))
        clear hb A17 P17 G17 R17 L17 K17 V17 M17 Z17 N17 Q17 B17
        have hH := neq_head 2 u2 i2 e2
        have cq0 := (unhide Q18).cell 0
        have cq1 := (unhide Q18).cell 1
        have cq2 := (unhide Q18).cell 2
        have cq3 := (unhide Q18).cell 3
        have cq4 := (unhide Q18).cell 4
        simp at cq0 cq1 cq2 cq3 cq4
        have lcq : b17 < w18.heap.size := by omega
        have cz0 := (unhide Z18).cell 0
        have cz1 := (unhide Z18).cell 1
        simp at cz0 cz1
        have lcz : b13 < w18.heap.size := by omega
        go_wp2_with fail
        clear cq0 cq1 cq2 cq3 cq4 lcq cz0 cz1 lcz
        clear hH
        go_ret
        exact ⟨rfl, unhide B18⟩
    · by_cases heC : (goneCode u3 e3) = 0
      · have HC := hide heC
        have eA : ((nodePCode u d pa nm.data.toList sz e) == 0) = false := by simpa using heA
        have eB : ((dataCode u2 i2 l e2) == 0) = false := by simpa using heB
        have eC : ((goneCode u3 e3) != 0) = false := by simpa using heC
        clear heA heB heC
        have cr0 := (unhide R14).cell 0
        have cr1 := (unhide R14).cell 1
        simp at cr0 cr1
        have lcr : b5 < w34.heap.size := by omega
        have cv0 := (unhide V14).cell 0
        have cv1 := (unhide V14).cell 1
        simp at cv0 cv1
        have lcv : b9 < w34.heap.size := by omega
        have cz0 := (unhide Z14).cell 0
        have cz1 := (unhide Z14).cell 1
        simp at cz0 cz1
        have lcz : b13 < w34.heap.size := by omega
        go_wp2_with fail
        clear cr0 cr1 lcr cv0 cv1 lcv cz0 cz1 lcz
        refine (implRead_ex a3 c3 (goneWords u3 e3) hc3 (goneWords_len _ _) _ (intsAt_own1 (unhide M14)) (gone_back u3 e3 (unhide HC)).2).mono ?_
        rintro e w15 ⟨⟨vr, rfl, hor⟩, hb⟩
        have z15 : w34.heap.size ≤ w15.heap.size := hb.size
        have A15 := hide ((unhide A14).below hb)
        have P15 := hide ((unhide P14).below hb)
        have G15 := hide (own_below (unhide G14) hb)
        have R15 := hide ((unhide R14).below hb)
        have L15 := hide ((unhide L14).below hb)
        have K15 := hide (own_below (unhide K14) hb)
        have V15 := hide ((unhide V14).below hb)
        have M15 := hide (own_below (unhide M14) hb)
        have Z15 := hide ((unhide Z14).below hb)
        have B15 := hide (below_step (unhide B14) hb (by omega))
        clear hb A14 P14 G14 R14 L14 K14 V14 M14 Z14 B14
        rw [(gone_back u3 e3 (unhide HC)).1]
        obtain ⟨a6, c6, rfl, -, -, -, -⟩ := intsAt_own hor
        clear hor
        have f0 : ∀ w : World, (Instr.field 45 (.agg #[.int .i64 0, .int .i64 3, .int .i64 u3, .int .i64 0, .int .i64 e3, .int .i64 0, .bool false, .int .i64 0, .string ⟨#[]⟩, .int .i64 0, .slice a6 0 c6]) 0).run Try.prog w = .ok (.int .i64 0) w := fun w => by kernel_rfl
        have cz0 := (unhide Z15).cell 0
        have cz1 := (unhide Z15).cell 1
        simp at cz0 cz1
        have lcz : b13 < w15.heap.size := by omega
        go_wp2_with fail
        clear cz0 cz1 lcz
        refine (implRead_ex a3 c3 (goneWords u3 e3) hc3 (goneWords_len _ _) _ (intsAt_own1 (unhide M15)) (gone_back u3 e3 (unhide HC)).2).mono ?_
        rintro e w16 ⟨⟨vr, rfl, hor⟩, hb⟩
        have z16 : w15.heap.size ≤ w16.heap.size := hb.size
        have A16 := hide ((unhide A15).below hb)
        have P16 := hide ((unhide P15).below hb)
        have G16 := hide (own_below (unhide G15) hb)
        have R16 := hide ((unhide R15).below hb)
        have L16 := hide ((unhide L15).below hb)
        have K16 := hide (own_below (unhide K15) hb)
        have V16 := hide ((unhide V15).below hb)
        have M16 := hide (own_below (unhide M15) hb)
        have Z16 := hide ((unhide Z15).below hb)
        have B16 := hide (below_step (unhide B15) hb (by omega))
        clear hb A15 P15 G15 R15 L15 K15 V15 M15 Z15 B15
        rw [(gone_back u3 e3 (unhide HC)).1]
        obtain ⟨a7, c7, rfl, -, -, -, -⟩ := intsAt_own hor
        clear hor
        have f1 : ∀ w : World, (Instr.field 45 (.agg #[.int .i64 0, .int .i64 3, .int .i64 u3, .int .i64 0, .int .i64 e3, .int .i64 0, .bool false, .int .i64 0, .string ⟨#[]⟩, .int .i64 0, .slice a7 0 c7]) 1).run Try.prog w = .ok (.agg #[.int .i64 3, .int .i64 u3, .int .i64 0, .int .i64 e3, .int .i64 0, .bool false, .int .i64 0, .string ⟨#[]⟩, .int .i64 0, .slice a7 0 c7]) w := fun w => by kernel_rfl
        have f2 : ∀ w : World, (Instr.field 43 (.agg #[.int .i64 3, .int .i64 u3, .int .i64 0, .int .i64 e3, .int .i64 0, .bool false, .int .i64 0, .string ⟨#[]⟩, .int .i64 0, .slice a7 0 c7]) 0).run Try.prog w = .ok (.agg #[.int .i64 3, .int .i64 u3, .int .i64 0, .int .i64 e3]) w := fun w => by kernel_rfl
        have hE := eql_head 3 u3 0 e3
        go_wp2_with fail
        go_ret
        exact ⟨rfl, unhide B16⟩
      · have eA : ((nodePCode u d pa nm.data.toList sz e) == 0) = false := by simpa using heA
        have eB : ((dataCode u2 i2 l e2) == 0) = false := by simpa using heB
        have eC : ((goneCode u3 e3) != 0) = true := by simpa using heC
        clear heA heB heC
        have cr0 := (unhide R14).cell 0
        have cr1 := (unhide R14).cell 1
        simp at cr0 cr1
        have lcr : b5 < w34.heap.size := by omega
        have cv0 := (unhide V14).cell 0
        have cv1 := (unhide V14).cell 1
        simp at cv0 cv1
        have lcv : b9 < w34.heap.size := by omega
        have cz0 := (unhide Z14).cell 0
        have cz1 := (unhide Z14).cell 1
        simp at cz0 cz1
        have lcz : b13 < w34.heap.size := by omega
        go_wp2_with fail
        clear cr0 cr1 lcr cv0 cv1 lcv cz0 cz1 lcz
        go_ret
        exact ⟨rfl, unhide B14⟩
end fnBlocks
end Go.Proofs.Ytmkahaddnbhnaaa
