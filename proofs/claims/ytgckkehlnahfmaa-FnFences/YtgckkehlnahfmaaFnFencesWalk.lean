/-
  The walk of laws.FnFences: it returns true, and writes nothing that was there.
-/
import Derived.Test.YtgckkehlnahfmaaDraw2Flush
import Derived.Test.YtgckkehlnahfmaaFncKit
import Derived.Deep.RegionHeld3
namespace Go.Proofs.Ytgckkehlnahfmaa
open Go.RowKit
set_option linter.unusedVariables false

theorem sleft' {W0 w' : World} {p : Prop} (h : Below W0.heap.size W0 w' ∧ p) : Below W0.heap.size W0 w' := h.1
theorem keepC3 {W0 w' w1 : World} {b0 b1 b2 o0 o1 o2 : Nat} {v0 v1 v2 : Value} (h0 : b0 < W0.heap.size) (h1 : b1 < W0.heap.size) (h2 : b2 < W0.heap.size) (hS : Below W0.heap.size W0 w' ∧ w'.cell? ⟨b0, o0, none⟩ = some v0 ∧ w'.cell? ⟨b1, o1, none⟩ = some v1 ∧ w'.cell? ⟨b2, o2, none⟩ = some v2) (hb : Below w'.heap.size w' w1) : Below W0.heap.size W0 w1 ∧ w1.cell? ⟨b0, o0, none⟩ = some v0 ∧ w1.cell? ⟨b1, o1, none⟩ = some v1 ∧ w1.cell? ⟨b2, o2, none⟩ = some v2 := by
  obtain ⟨h, d0, d1, d2⟩ := hS
  have hz := h.size
  exact ⟨h.trans (hb.mono hz), ((bcell hb).1 _ _ (by omega)).trans d0, ((bcell hb).1 _ _ (by omega)).trans d1, ((bcell hb).1 _ _ (by omega)).trans d2⟩
theorem keepC4 {W0 w' w1 : World} {b0 b1 b2 b3 o0 o1 o2 o3 : Nat} {v0 v1 v2 v3 : Value} (h0 : b0 < W0.heap.size) (h1 : b1 < W0.heap.size) (h2 : b2 < W0.heap.size) (h3 : b3 < W0.heap.size) (hS : Below W0.heap.size W0 w' ∧ w'.cell? ⟨b0, o0, none⟩ = some v0 ∧ w'.cell? ⟨b1, o1, none⟩ = some v1 ∧ w'.cell? ⟨b2, o2, none⟩ = some v2 ∧ w'.cell? ⟨b3, o3, none⟩ = some v3) (hb : Below w'.heap.size w' w1) : Below W0.heap.size W0 w1 ∧ w1.cell? ⟨b0, o0, none⟩ = some v0 ∧ w1.cell? ⟨b1, o1, none⟩ = some v1 ∧ w1.cell? ⟨b2, o2, none⟩ = some v2 ∧ w1.cell? ⟨b3, o3, none⟩ = some v3 := by
  obtain ⟨h, d0, d1, d2, d3⟩ := hS
  have hz := h.size
  exact ⟨h.trans (hb.mono hz), ((bcell hb).1 _ _ (by omega)).trans d0, ((bcell hb).1 _ _ (by omega)).trans d1, ((bcell hb).1 _ _ (by omega)).trans d2, ((bcell hb).1 _ _ (by omega)).trans d3⟩
theorem keepC8 {W0 w' w1 : World} {b0 b1 b2 b3 b4 b5 b6 b7 o0 o1 o2 o3 o4 o5 o6 o7 : Nat} {v0 v1 v2 v3 v4 v5 v6 v7 : Value} (h0 : b0 < W0.heap.size) (h1 : b1 < W0.heap.size) (h2 : b2 < W0.heap.size) (h3 : b3 < W0.heap.size) (h4 : b4 < W0.heap.size) (h5 : b5 < W0.heap.size) (h6 : b6 < W0.heap.size) (h7 : b7 < W0.heap.size) (hS : Below W0.heap.size W0 w' ∧ w'.cell? ⟨b0, o0, none⟩ = some v0 ∧ w'.cell? ⟨b1, o1, none⟩ = some v1 ∧ w'.cell? ⟨b2, o2, none⟩ = some v2 ∧ w'.cell? ⟨b3, o3, none⟩ = some v3 ∧ w'.cell? ⟨b4, o4, none⟩ = some v4 ∧ w'.cell? ⟨b5, o5, none⟩ = some v5 ∧ w'.cell? ⟨b6, o6, none⟩ = some v6 ∧ w'.cell? ⟨b7, o7, none⟩ = some v7) (hb : Below w'.heap.size w' w1) : Below W0.heap.size W0 w1 ∧ w1.cell? ⟨b0, o0, none⟩ = some v0 ∧ w1.cell? ⟨b1, o1, none⟩ = some v1 ∧ w1.cell? ⟨b2, o2, none⟩ = some v2 ∧ w1.cell? ⟨b3, o3, none⟩ = some v3 ∧ w1.cell? ⟨b4, o4, none⟩ = some v4 ∧ w1.cell? ⟨b5, o5, none⟩ = some v5 ∧ w1.cell? ⟨b6, o6, none⟩ = some v6 ∧ w1.cell? ⟨b7, o7, none⟩ = some v7 := by
  obtain ⟨h, d0, d1, d2, d3, d4, d5, d6, d7⟩ := hS
  have hz := h.size
  exact ⟨h.trans (hb.mono hz), ((bcell hb).1 _ _ (by omega)).trans d0, ((bcell hb).1 _ _ (by omega)).trans d1, ((bcell hb).1 _ _ (by omega)).trans d2, ((bcell hb).1 _ _ (by omega)).trans d3, ((bcell hb).1 _ _ (by omega)).trans d4, ((bcell hb).1 _ _ (by omega)).trans d5, ((bcell hb).1 _ _ (by omega)).trans d6, ((bcell hb).1 _ _ (by omega)).trans d7⟩
theorem keepC9 {W0 w' w1 : World} {b0 b1 b2 b3 b4 b5 b6 b7 b8 o0 o1 o2 o3 o4 o5 o6 o7 o8 : Nat} {v0 v1 v2 v3 v4 v5 v6 v7 v8 : Value} (h0 : b0 < W0.heap.size) (h1 : b1 < W0.heap.size) (h2 : b2 < W0.heap.size) (h3 : b3 < W0.heap.size) (h4 : b4 < W0.heap.size) (h5 : b5 < W0.heap.size) (h6 : b6 < W0.heap.size) (h7 : b7 < W0.heap.size) (h8 : b8 < W0.heap.size) (hS : Below W0.heap.size W0 w' ∧ w'.cell? ⟨b0, o0, none⟩ = some v0 ∧ w'.cell? ⟨b1, o1, none⟩ = some v1 ∧ w'.cell? ⟨b2, o2, none⟩ = some v2 ∧ w'.cell? ⟨b3, o3, none⟩ = some v3 ∧ w'.cell? ⟨b4, o4, none⟩ = some v4 ∧ w'.cell? ⟨b5, o5, none⟩ = some v5 ∧ w'.cell? ⟨b6, o6, none⟩ = some v6 ∧ w'.cell? ⟨b7, o7, none⟩ = some v7 ∧ w'.cell? ⟨b8, o8, none⟩ = some v8) (hb : Below w'.heap.size w' w1) : Below W0.heap.size W0 w1 ∧ w1.cell? ⟨b0, o0, none⟩ = some v0 ∧ w1.cell? ⟨b1, o1, none⟩ = some v1 ∧ w1.cell? ⟨b2, o2, none⟩ = some v2 ∧ w1.cell? ⟨b3, o3, none⟩ = some v3 ∧ w1.cell? ⟨b4, o4, none⟩ = some v4 ∧ w1.cell? ⟨b5, o5, none⟩ = some v5 ∧ w1.cell? ⟨b6, o6, none⟩ = some v6 ∧ w1.cell? ⟨b7, o7, none⟩ = some v7 ∧ w1.cell? ⟨b8, o8, none⟩ = some v8 := by
  obtain ⟨h, d0, d1, d2, d3, d4, d5, d6, d7, d8⟩ := hS
  have hz := h.size
  exact ⟨h.trans (hb.mono hz), ((bcell hb).1 _ _ (by omega)).trans d0, ((bcell hb).1 _ _ (by omega)).trans d1, ((bcell hb).1 _ _ (by omega)).trans d2, ((bcell hb).1 _ _ (by omega)).trans d3, ((bcell hb).1 _ _ (by omega)).trans d4, ((bcell hb).1 _ _ (by omega)).trans d5, ((bcell hb).1 _ _ (by omega)).trans d6, ((bcell hb).1 _ _ (by omega)).trans d7, ((bcell hb).1 _ _ (by omega)).trans d8⟩

namespace fnFences
set_option maxRecDepth 20000 in
theorem no (a : Option Addr) (n c : Nat) (w : World) (hn : ¬ (n : Int) ≤ 1048576) :
    Calls Try.prog 4 #[.slice a n c] w fun r w' => r = .returned (.bool true) ∧ Below w.heap.size w w' := by
  go_enter Try.func4, Try.ntmps4
  go_wp2_with (go_at_call 7; go_in)
  go_ret
  exact ⟨rfl, Below.refl _ _⟩

set_option maxRecDepth 20000 in
set_option maxHeartbeats 4000000 in
theorem yes (a : Option Addr) (n c : Nat) (w : World) (h : CodeAt w a n) (hn : n ≤ 1048576) :
    Calls Try.prog 4 #[.slice a n c] w fun r w' => r = .returned (.bool true) ∧ Below w.heap.size w w' := by
  have hn' : ¬ (1048576 : Int) < n := by omega
  have AZ := hide h
  clear h
  go_enter Try.func4, Try.ntmps4
  go_wp2_with (go_at_call 7; go_in)
  refine (drawFlushLine_any a n c _ (unhide AZ) hn).mono ?_
  rintro e w1 ⟨⟨a1, c1, a2, c2, a3, c3, D, line, rfl, hR, hF⟩, hb⟩
  have z1 : w.heap.size ≤ w1.heap.size := hb.size
  have B1 := hide hb
  clear hb
  obtain ⟨hF1, hF2, hF3⟩ := hF
  have DX : Hid (DevRd w1 a1 a2 a3 D) := hide ⟨hR.r, by omega, by omega, by omega⟩
  have HL := hide (flush_few hF1 hF2 hF3 line)
  have n1 := (unhide DX).n1
  have n2 := (unhide DX).n2
  have n3 := (unhide DX).n3
  clear hR hF1 hF2 hF3 AZ
  go_wp2_with fail
  obtain ⟨W2, hW, z2, hbx, hx⟩ := boxes1 w1 [.slice a1 D.words.length c1, .slice a2 D.flights.length c2, .slice a3 D.over.length c3] 27
  rw [← hW]
  clear hW
  have D2 := hide ((unhide DX).below (unhide hbx))
  have B2 := hide (below_step (unhide B1) (unhide hbx) (by omega))
  have P2 := hx
  clear hbx hx DX B1
  have u2 : w1.heap.size < W2.heap.size := by omega
  generalize w1.heap.size = b2 at *
  refine (implFlushLine_any a1 a2 a3 c1 c2 c3 D line _ (unhide D2).r n1 n2 n3).mono ?_
  rintro e w3 ⟨hres, hb⟩
  obtain ⟨f1, g1, f2, g2, f3, g3, rfl, hf⟩ := resIs_at hres
  clear hres
  obtain ⟨cd, hcd⟩ : ∃ cd, cd = chgCode D (flushCode D line) := ⟨_, rfl⟩
  obtain ⟨F, hFD⟩ : ∃ F, F = chgDev D (flushCode D line) (flushDev D line) := ⟨_, rfl⟩
  rw [← hFD] at hf
  rw [← hcd, ← hFD]
  have HCD := hide hcd
  have HFD := hide hFD
  clear hcd hFD
  have z3 : W2.heap.size ≤ w3.heap.size := hb.size
  have D3 := hide ((unhide D2).below hb)
  have P3 := hide ((unhide P2).below hb)
  have B3 := hide (below_step (unhide B2) hb (by omega))
  clear hb D2 P2 B2
  have FX := hide hf
  clear hf
  go_wp2_with fail
  obtain ⟨W4, hW, z4, hbx, hx⟩ := boxes1 w3 [.int .i64 cd, .slice f1 F.words.length g1, .slice f2 F.flights.length g2, .slice f3 F.over.length g3] 31
  rw [← hW]
  clear hW
  have D4 := hide ((unhide D3).below (unhide hbx))
  have P4 := hide ((unhide P3).below (unhide hbx))
  have F4 := hide ((unhide FX).below (unhide hbx))
  have B4 := hide (below_step (unhide B3) (unhide hbx) (by omega))
  have R4 := hx
  clear hbx hx D3 P3 FX B3
  have u4 : w3.heap.size < W4.heap.size := by omega
  generalize w3.heap.size = b4 at *
  have hfd : ∀ (x : Int) (v1 v2 v3 : Value) (w : World), (Instr.field 31 (.agg #[.int .i64 x, v1, v2, v3]) 0).run Try.prog w = .ok (.int .i64 x) w := fun x v1 v2 v3 w => by kernel_rfl
  have hne := int_neq_self cd
  have R_0 := (unhide R4).cell 0
  have m_R : b4 < W4.heap.size := by omega
  have P_0 := (unhide P4).cell 0
  have P_1 := (unhide P4).cell 1
  have P_2 := (unhide P4).cell 2
  have m_P : b2 < W4.heap.size := by omega
  simp at R_0 P_0 P_1 P_2
  have hD : (fun w' => Below W4.heap.size W4 w' ∧ w'.cell? ⟨b4, 0, none⟩ = some (.int .i64 cd) ∧ w'.cell? ⟨b2, 0, none⟩ = some (.slice a1 D.words.length c1) ∧ w'.cell? ⟨b2, 1, none⟩ = some (.slice a2 D.flights.length c2) ∧ w'.cell? ⟨b2, 2, none⟩ = some (.slice a3 D.over.length c3)) W4.drew := ⟨(Below.refl _ _).drew, R_0, P_0, P_1, P_2⟩
  have HD := hide hD
  clear hD R_0 P_0 P_1 P_2
  go_region_held3 (fun w' => Below W4.heap.size W4 w' ∧ w'.cell? ⟨b4, 0, none⟩ = some (.int .i64 cd) ∧ w'.cell? ⟨b2, 0, none⟩ = some (.slice a1 D.words.length c1) ∧ w'.cell? ⟨b2, 1, none⟩ = some (.slice a2 D.flights.length c2) ∧ w'.cell? ⟨b2, 2, none⟩ = some (.slice a3 D.over.length c3)) (first | exact unhide HD | assumption | exact keepC4 m_R m_P m_P m_P (by assumption) (by assumption))
    (first
      | (go_at_call 19; refine (specFlushLine_any a1 a2 a3 c1 c2 c3 D line _ ((unhide D4).below (sleft' (by assumption))).r n1 n2 n3).mono ?_; rintro r w5 ⟨⟨p1, q1, p2, q2, p3, q3, rfl, -⟩, hb5⟩; rw [← unhide HCD]))
  rename_i hSF
  have hbS := hSF.1
  clear hSF HD m_P m_R
  generalize hwn : w5 = w205 at *
  clear hwn
  have z5 : W4.heap.size ≤ w205.heap.size := hbS.size
  have D5 := hide ((unhide D4).below hbS)
  have P5 := hide ((unhide P4).below hbS)
  have F5 := hide ((unhide F4).below hbS)
  have R5 := hide ((unhide R4).below hbS)
  have B5 := hide (below_step (unhide B4) hbS (by omega))
  clear hbS D4 P4 F4 R4 B4
  clear hne
  by_cases hc0 : cd = 0
  · skip
    have e0 : (cd != 0) = false := by simpa using hc0
    have hch : chgCode D (flushCode D line) = 0 := (unhide HCD).symm.trans hc0
    have hFl : F = flushDev D line := (unhide HFD).trans (chgDev_ok hch)
    have HG : Hid (Good D) := hide (chg_ok hch).1
    have HGF : Hid (Good F) := hide (by rw [hFl]; exact (unhide HG).flush line)
    have hwl : F.words.length = D.words.length := by rw [hFl]; rfl
    have HWL := hide hwl
    have FR : Hid (DevRd w205 f1 f2 f3 F) := hide ⟨unhide F5, by rw [hFl]; exact (unhide HL).1, by rw [hFl]; exact (unhide HL).2.1, by rw [hFl]; exact (unhide HL).2.2⟩
    have HFl := hide hFl
    clear hFl hch hc0 HCD HFD hwl F5
    have cr0 := (unhide R5).cell 0
    have cr1 := (unhide R5).cell 1
    have cr2 := (unhide R5).cell 2
    have cr3 := (unhide R5).cell 3
    simp at cr0 cr1 cr2 cr3
    have lcr : b4 < w205.heap.size := by omega
    go_wp2_with fail
    clear cr0 cr1 cr2 cr3 lcr
    refine (implFence_good f1 f2 f3 g1 g2 g3 F _ (unhide FR) (unhide HGF)).mono ?_
    rintro e w6 ⟨⟨e1, h1, e2, h2, e3, h3, rfl, hE⟩, hb⟩
    rw [unhide HWL]
    have z6 : w205.heap.size ≤ w6.heap.size := hb.size
    have D6 := hide ((unhide D5).below hb)
    have P6 := hide ((unhide P5).below hb)
    have R6 := hide ((unhide R5).below hb)
    have F6 := hide ((unhide FR).below hb)
    have B6 := hide (below_step (unhide B5) hb (by omega))
    clear hb D5 P5 R5 FR B5
    have EX := hide hE
    clear hE
    have hne := int_neq_self (D.words.length : Int)
    have cp0 := (unhide P6).cell 0
    have cp1 := (unhide P6).cell 1
    have cp2 := (unhide P6).cell 2
    simp at cp0 cp1 cp2
    have lcp : b2 < w6.heap.size := by omega
    have cr0 := (unhide R6).cell 0
    have cr1 := (unhide R6).cell 1
    have cr2 := (unhide R6).cell 2
    have cr3 := (unhide R6).cell 3
    simp at cr0 cr1 cr2 cr3
    have lcr : b4 < w6.heap.size := by omega
    go_wp2_with fail
    clear cp0 cp1 cp2 lcp cr0 cr1 cr2 cr3 lcr
    clear hne
    obtain ⟨W7, hW, z7, hbx, hx⟩ := boxes1 w6 [.int .i64 0, .slice e1 D.words.length h1, .slice e2 0 h2, .slice e3 F.over.length h3] 31
    rw [← hW]
    clear hW
    have D7 := hide ((unhide D6).below (unhide hbx))
    have P7 := hide ((unhide P6).below (unhide hbx))
    have R7 := hide ((unhide R6).below (unhide hbx))
    have F7 := hide ((unhide F6).below (unhide hbx))
    have E7 := hide ((unhide EX).below (unhide hbx))
    have B7 := hide (below_step (unhide B6) (unhide hbx) (by omega))
    have Q7 := hx
    clear hbx hx D6 P6 R6 F6 EX B6
    have u7 : w6.heap.size < W7.heap.size := by omega
    generalize w6.heap.size = b7 at *
    refine (implFault_good f1 f2 f3 g1 g2 g3 _ _ _ F _ (unhide F7) rfl rfl rfl (unhide HGF)).mono ?_
    rintro e w8 ⟨rfl, hb⟩
    have z8 : W7.heap.size ≤ w8.heap.size := hb.size
    have D8 := hide ((unhide D7).below hb)
    have P8 := hide ((unhide P7).below hb)
    have R8 := hide ((unhide R7).below hb)
    have F8 := hide ((unhide F7).below hb)
    have E8 := hide ((unhide E7).below hb)
    have Q8 := hide ((unhide Q7).below hb)
    have B8 := hide (below_step (unhide B7) hb (by omega))
    clear hb D7 P7 R7 F7 E7 Q7 B7
    go_wp2_with fail
    go_loopw [7] (fun i wr => ∃ k : Nat, k ≤ D.words.length ∧ i = .int .i64 k ∧ Hid (Below w8.heap.size w8 wr)) (fun i _ => D.words.length - (intOf i).toNat)
    case atStart => exact ⟨0, Nat.zero_le _, rfl, hide (Below.refl _ _)⟩
    case round =>
      obtain ⟨k, hkl, rfl, hbr⟩ := hrel
      obtain ⟨w9, rfl⟩ : ∃ x : World, x = wr := ⟨_, rfl⟩
      have z9 : w8.heap.size ≤ w9.heap.size := (unhide hbr).size
      have D9 := hide ((unhide D8).below (unhide hbr))
      have P9 := hide ((unhide P8).below (unhide hbr))
      have R9 := hide ((unhide R8).below (unhide hbr))
      have F9 := hide ((unhide F8).below (unhide hbr))
      have E9 := hide ((unhide E8).below (unhide hbr))
      have Q9 := hide ((unhide Q8).below (unhide hbr))
      have B9 := hide (below_step (unhide B8) (unhide hbr) (by omega))
      clear D8 P8 R8 F8 E8 Q8 B8
      by_cases hlt : k < D.words.length
      · skip
        have hlt' : (k : Int) < D.words.length := by omega
        obtain ⟨x, hx⟩ : ∃ x, load D k = x := ⟨_, rfl⟩
        have HX := hide hx
        have hltF : k < F.words.length := by rw [unhide HWL]; exact hlt
        have HXF : Hid (load F k = x) := hide (by rw [unhide HFl, load_flush (unhide HG)]; exact hx)
        have HXE : Hid (load (fenceDev F) k = x) := hide (by rw [load_fence (unhide HGF) hltF]; exact unhide HXF)
        have hltE : k < (fenceDev F).words.length := by rw [show (fenceDev F).words.length = F.words.length from keepAll_len _ _]; exact hltF
        have RF : Hid (LoadRd w9 f1 f2 f3 F.words.length F.flights.length F.over.length k x) := hide ⟨F, unhide F9, rfl, rfl, rfl, unhide HGF, hltF, unhide HXF⟩
        have RE : Hid (LoadRd w9 e1 e2 e3 D.words.length 0 F.over.length k x) := hide ⟨fenceDev F, unhide E9, by rw [← unhide HWL]; exact (keepAll_len _ _).symm, rfl, rfl, (unhide HGF).fence, hltE, unhide HXE⟩
        clear hx
        have cp0 := (unhide P9).cell 0
        have cp1 := (unhide P9).cell 1
        have cp2 := (unhide P9).cell 2
        simp at cp0 cp1 cp2
        have lcp : b2 < w9.heap.size := by omega
        go_wp2_with fail
        clear cp0 cp1 cp2 lcp
        refine (specLoad_is a1 a2 a3 c1 c2 c3 _ _ _ D k x _ (unhide D9) rfl rfl rfl (unhide HG) hlt (unhide HX)).mono ?_
        rintro e w10 ⟨rfl, hb⟩
        have z10 : w9.heap.size ≤ w10.heap.size := hb.size
        have D10 := hide ((unhide D9).below hb)
        have P10 := hide ((unhide P9).below hb)
        have R10 := hide ((unhide R9).below hb)
        have F10 := hide ((unhide F9).below hb)
        have E10 := hide ((unhide E9).below hb)
        have Q10 := hide ((unhide Q9).below hb)
        have M10 := hide ((unhide RF).below hb)
        have N10 := hide ((unhide RE).below hb)
        have B10 := hide (below_step (unhide B9) hb (by omega))
        have Y10 := hide (below_step (unhide hbr) hb (by omega))
        clear hb D9 P9 R9 F9 E9 Q9 RF RE B9 hbr
        go_wp2_with fail
        obtain ⟨W11, hW, z11, hbx, hx⟩ := boxes1 w10 [.int .i64 0, .int .i64 x] 36
        rw [← hW]
        clear hW
        have D11 := hide ((unhide D10).below (unhide hbx))
        have P11 := hide ((unhide P10).below (unhide hbx))
        have R11 := hide ((unhide R10).below (unhide hbx))
        have F11 := hide ((unhide F10).below (unhide hbx))
        have E11 := hide ((unhide E10).below (unhide hbx))
        have Q11 := hide ((unhide Q10).below (unhide hbx))
        have M11 := hide ((unhide M10).below (unhide hbx))
        have N11 := hide ((unhide N10).below (unhide hbx))
        have B11 := hide (below_step (unhide B10) (unhide hbx) (by omega))
        have V11 := hx
        have Y11 := hide (below_step (unhide Y10) (unhide hbx) (by omega))
        clear hbx hx D10 P10 R10 F10 E10 Q10 M10 N10 B10 Y10
        have u11 : w10.heap.size < W11.heap.size := by omega
        generalize w10.heap.size = b11 at *
        have hN := neq_int2 0 x
        have hnx := int_neq_self x
        have hqw : IntKind.i64.wrap ((k : Int) / 8) = (k : Int) / 8 := by rw [IntKind.wrap_i64]; have := n1; omega
        by_cases hq : (k : Int) / 8 = line
        · skip
          have hqb : ((k : Int) / 8 == line) = true := by simpa using hq
          obtain ⟨be, oe, heb, hbe, hce⟩ := (unhide E11).r.r1.at hltE
          have ek := hce k hltE
          have hv : (fenceDev F).words[k] = x := by have e := kept_flush (unhide HG) hlt hq; rw [← unhide HFl, unhide HX] at e; rw [← e]; simp [List.getD_eq_getElem?_getD, hltE]
          rw [hv] at ek
          clear hce hv hq
          subst heb
          have R_1 := (unhide R11).cell 1
          have R_2 := (unhide R11).cell 2
          have R_3 := (unhide R11).cell 3
          have m_R : b4 < W11.heap.size := by omega
          have V_0 := (unhide V11).cell 0
          have V_1 := (unhide V11).cell 1
          have m_V : b11 < W11.heap.size := by omega
          have Q_1 := (unhide Q11).cell 1
          have Q_2 := (unhide Q11).cell 2
          have Q_3 := (unhide Q11).cell 3
          have m_Q : b7 < W11.heap.size := by omega
          simp at R_1 R_2 R_3 V_0 V_1 Q_1 Q_2 Q_3
          have hD : (fun w' => Below W11.heap.size W11 w' ∧ w'.cell? ⟨b4, 1, none⟩ = some (.slice f1 F.words.length g1) ∧ w'.cell? ⟨b4, 2, none⟩ = some (.slice f2 F.flights.length g2) ∧ w'.cell? ⟨b4, 3, none⟩ = some (.slice f3 F.over.length g3) ∧ w'.cell? ⟨b11, 0, none⟩ = some (.int .i64 0) ∧ w'.cell? ⟨b11, 1, none⟩ = some (.int .i64 x) ∧ w'.cell? ⟨b7, 1, none⟩ = some (.slice (some ⟨be, oe, none⟩) D.words.length h1) ∧ w'.cell? ⟨b7, 2, none⟩ = some (.slice e2 0 h2) ∧ w'.cell? ⟨b7, 3, none⟩ = some (.slice e3 F.over.length h3) ∧ w'.cell? ⟨be, oe + k, none⟩ = some (.int .i64 x)) W11.drew := ⟨(Below.refl _ _).drew, R_1, R_2, R_3, V_0, V_1, Q_1, Q_2, Q_3, ek⟩
          have HD := hide hD
          clear hD R_1 R_2 R_3 V_0 V_1 Q_1 Q_2 Q_3
          go_region_held3 (fun w' => Below W11.heap.size W11 w' ∧ w'.cell? ⟨b4, 1, none⟩ = some (.slice f1 F.words.length g1) ∧ w'.cell? ⟨b4, 2, none⟩ = some (.slice f2 F.flights.length g2) ∧ w'.cell? ⟨b4, 3, none⟩ = some (.slice f3 F.over.length g3) ∧ w'.cell? ⟨b11, 0, none⟩ = some (.int .i64 0) ∧ w'.cell? ⟨b11, 1, none⟩ = some (.int .i64 x) ∧ w'.cell? ⟨b7, 1, none⟩ = some (.slice (some ⟨be, oe, none⟩) D.words.length h1) ∧ w'.cell? ⟨b7, 2, none⟩ = some (.slice e2 0 h2) ∧ w'.cell? ⟨b7, 3, none⟩ = some (.slice e3 F.over.length h3) ∧ w'.cell? ⟨be, oe + k, none⟩ = some (.int .i64 x)) (first | exact unhide HD | assumption | exact keepC9 m_R m_R m_R m_V m_V m_Q m_Q m_Q hbe (by assumption) (by assumption))
            (first
              | (go_at_call 12; refine (implLoad_rd _ _ _ _ _ _ _ _ _ k x _ (by first | exact (unhide M11).below (sleft' (by assumption)) | exact (unhide N11).below (sleft' (by assumption)))).mono ?_; rintro r w5 ⟨rfl, hb5⟩))
          rename_i hSF
          have hbS := hSF.1
          clear hSF HD m_Q m_R m_V
          generalize hwn : w5 = w212 at *
          clear hwn
          have z12 : W11.heap.size ≤ w212.heap.size := hbS.size
          have D12 := hide ((unhide D11).below hbS)
          have P12 := hide ((unhide P11).below hbS)
          have R12 := hide ((unhide R11).below hbS)
          have F12 := hide ((unhide F11).below hbS)
          have E12 := hide ((unhide E11).below hbS)
          have Q12 := hide ((unhide Q11).below hbS)
          have M12 := hide ((unhide M11).below hbS)
          have N12 := hide ((unhide N11).below hbS)
          have V12 := hide ((unhide V11).below hbS)
          have B12 := hide (below_step (unhide B11) hbS (by omega))
          have Y12 := hide (below_step (unhide Y11) hbS (by omega))
          clear hbS D11 P11 R11 F11 E11 Q11 M11 N11 V11 B11 Y11
          clear hqb hnx hN
          go_wp2_with fail
          exact ⟨⟨k + 1, by omega, by go_num, Y12⟩, by simp [intOf]; omega⟩
        · skip
          have hqb : ((k : Int) / 8 == line) = false := by simpa using hq
          clear hq
          have R_1 := (unhide R11).cell 1
          have R_2 := (unhide R11).cell 2
          have R_3 := (unhide R11).cell 3
          have m_R : b4 < W11.heap.size := by omega
          have V_0 := (unhide V11).cell 0
          have V_1 := (unhide V11).cell 1
          have m_V : b11 < W11.heap.size := by omega
          have Q_1 := (unhide Q11).cell 1
          have Q_2 := (unhide Q11).cell 2
          have Q_3 := (unhide Q11).cell 3
          have m_Q : b7 < W11.heap.size := by omega
          simp at R_1 R_2 R_3 V_0 V_1 Q_1 Q_2 Q_3
          have hD : (fun w' => Below W11.heap.size W11 w' ∧ w'.cell? ⟨b4, 1, none⟩ = some (.slice f1 F.words.length g1) ∧ w'.cell? ⟨b4, 2, none⟩ = some (.slice f2 F.flights.length g2) ∧ w'.cell? ⟨b4, 3, none⟩ = some (.slice f3 F.over.length g3) ∧ w'.cell? ⟨b11, 0, none⟩ = some (.int .i64 0) ∧ w'.cell? ⟨b11, 1, none⟩ = some (.int .i64 x) ∧ w'.cell? ⟨b7, 1, none⟩ = some (.slice e1 D.words.length h1) ∧ w'.cell? ⟨b7, 2, none⟩ = some (.slice e2 0 h2) ∧ w'.cell? ⟨b7, 3, none⟩ = some (.slice e3 F.over.length h3)) W11.drew := ⟨(Below.refl _ _).drew, R_1, R_2, R_3, V_0, V_1, Q_1, Q_2, Q_3⟩
          have HD := hide hD
          clear hD R_1 R_2 R_3 V_0 V_1 Q_1 Q_2 Q_3
          refine wp_region_held_drew (S := (fun w' => Below W11.heap.size W11 w' ∧ w'.cell? ⟨b4, 1, none⟩ = some (.slice f1 F.words.length g1) ∧ w'.cell? ⟨b4, 2, none⟩ = some (.slice f2 F.flights.length g2) ∧ w'.cell? ⟨b4, 3, none⟩ = some (.slice f3 F.over.length g3) ∧ w'.cell? ⟨b11, 0, none⟩ = some (.int .i64 0) ∧ w'.cell? ⟨b11, 1, none⟩ = some (.int .i64 x) ∧ w'.cell? ⟨b7, 1, none⟩ = some (.slice e1 D.words.length h1) ∧ w'.cell? ⟨b7, 2, none⟩ = some (.slice e2 0 h2) ∧ w'.cell? ⟨b7, 3, none⟩ = some (.slice e3 F.over.length h3))) (by kernel_rfl) (unhide HD) (fun hHeld => ?_)
          refine wpAnyH_take (i := 0) (oi := { dst := some 68, op := Op.fieldAddr 31 (Operand.tmp 5) 1, type := 0, pos := "laws.go:169", after := #[], guard := none }) (v := .pointer (some ⟨b4, 1, none⟩)) rfl (by kernel_rfl) (by kernel_rfl) (by kernel_rfl) (fun _ _ _ h => h) (Or.inl ⟨by rfl, ?_⟩) (by assumption) ?_
          · (intro w hSw; (try dsimp only at hSw); go_simp)
          try simp only [Act.put, List.setIfInBounds_toArray, List.set_cons_zero, List.set_cons_succ]
          refine wpAnyH_take (i := 1) (oi := { dst := some 69, op := Op.load 27 (Operand.tmp 68), type := 27, pos := "laws.go:169", after := #[{ on := 0, ground := Ground.data }], guard := none }) (v := .agg #[.slice f1 F.words.length g1, .slice f2 F.flights.length g2, .slice f3 F.over.length g3]) rfl (by kernel_rfl) (by kernel_rfl) (by kernel_rfl) (fun _ _ _ h => h) (Or.inl ⟨by rfl, ?_⟩) (by assumption) ?_
          · (intro w hSw; (try dsimp only at hSw); go_simp)
          try simp only [Act.put, List.setIfInBounds_toArray, List.set_cons_zero, List.set_cons_succ]
          refine wpAnyH_take (i := 2) (oi := { dst := some 70, op := Op.move (Operand.tmp 7), type := 2, pos := "laws.go:169", after := #[], guard := none }) (v := .int .i64 k) rfl (by kernel_rfl) (by kernel_rfl) (by kernel_rfl) (fun _ _ _ h => h) (Or.inl ⟨by rfl, ?_⟩) (by assumption) ?_
          · (intro w hSw; (try dsimp only at hSw); go_simp)
          try simp only [Act.put, List.setIfInBounds_toArray, List.set_cons_zero, List.set_cons_succ]
          refine wpAnyH_take (i := 4) (oi := { dst := some 72, op := Op.load 36 (Operand.tmp 8), type := 36, pos := "laws.go:169", after := #[], guard := none }) (v := .agg #[.int .i64 0, .int .i64 x]) rfl (by kernel_rfl) (by kernel_rfl) (by kernel_rfl) (fun _ _ _ h => h) (Or.inl ⟨by rfl, ?_⟩) (by assumption) ?_
          · (intro w hSw; (try dsimp only at hSw); go_simp)
          try simp only [Act.put, List.setIfInBounds_toArray, List.set_cons_zero, List.set_cons_succ]
          refine wpAnyH_ready (rs := [3]) (by kernel_rfl) (by simp) ?_
          refine AllReadyH.cons (o := { dst := some 71, op := Op.call { callee := Callee.value (Operand.func 12), args := #[Operand.tmp 69, Operand.tmp 70], argTypes := #[27, 2] }, type := 36, pos := "laws.go:169", after := #[{ on := 1, ground := Ground.data }, { on := 2, ground := Ground.data }], guard := none }) rfl (fun K hK => ?_) AllReadyH.nil
          go_simp
          refine (implLoad_rd _ _ _ _ _ _ _ _ _ k x _ ((unhide M11).below (sleft' hHeld))).mono ?_
          rintro r v1 ⟨rfl, hb5⟩
          refine hK.out _ _ (keepC8 m_R m_R m_R m_V m_V m_Q m_Q m_Q hHeld hb5) (fun hHeld1 => ?_)
          clear hb5
          clear hHeld
          clear hK K
          try simp only [Act.put, List.setIfInBounds_toArray, List.set_cons_zero, List.set_cons_succ]
          refine wpAnyH_take (i := 5) (oi := { dst := some 73, op := Op.binOp BinOp.neq 36 (Operand.tmp 71) (Operand.tmp 72) 36, type := 4, pos := "laws.go:169", after := #[{ on := 3, ground := Ground.data }, { on := 4, ground := Ground.data }], guard := none }) (v := .bool false) rfl (by kernel_rfl) (by kernel_rfl) (by kernel_rfl) (fun _ _ _ h => h) (Or.inl ⟨by rfl, ?_⟩) (by assumption) ?_
          · (intro w hSw; (try dsimp only at hSw); go_simp)
          try simp only [Act.put, List.setIfInBounds_toArray, List.set_cons_zero, List.set_cons_succ]
          refine wpAnyH_take (i := 6) (oi := { dst := some 74, op := Op.move (Operand.tmp 73), type := 4, pos := "laws.go:169", after := #[{ on := 5, ground := Ground.data }, { on := 3, ground := Ground.chain }], guard := none }) (v := .bool false) rfl (by kernel_rfl) (by kernel_rfl) (by kernel_rfl) (fun _ _ _ h => h) (Or.inl ⟨by rfl, ?_⟩) (by assumption) ?_
          · (intro w hSw; (try dsimp only at hSw); go_simp)
          try simp only [Act.put, List.setIfInBounds_toArray, List.set_cons_zero, List.set_cons_succ]
          refine wpAnyH_take (i := 7) (oi := { dst := some 75, op := Op.fieldAddr 31 (Operand.tmp 6) 1, type := 0, pos := "laws.go:169", after := #[{ on := 6, ground := Ground.guard }], guard := some (6, false) }) (v := .pointer (some ⟨b7, 1, none⟩)) rfl (by kernel_rfl) (by kernel_rfl) (by kernel_rfl) (fun _ _ _ h => h) (Or.inl ⟨by rfl, ?_⟩) (by assumption) ?_
          · (intro w hSw; (try dsimp only at hSw); go_simp)
          try simp only [Act.put, List.setIfInBounds_toArray, List.set_cons_zero, List.set_cons_succ]
          refine wpAnyH_take (i := 8) (oi := { dst := some 76, op := Op.load 27 (Operand.tmp 75), type := 27, pos := "laws.go:169", after := #[{ on := 7, ground := Ground.data }, { on := 6, ground := Ground.guard }], guard := some (6, false) }) (v := .agg #[.slice e1 D.words.length h1, .slice e2 0 h2, .slice e3 F.over.length h3]) rfl (by kernel_rfl) (by kernel_rfl) (by kernel_rfl) (fun _ _ _ h => h) (Or.inl ⟨by rfl, ?_⟩) (by assumption) ?_
          · (intro w hSw; (try dsimp only at hSw); go_simp)
          try simp only [Act.put, List.setIfInBounds_toArray, List.set_cons_zero, List.set_cons_succ]
          refine wpAnyH_take (i := 9) (oi := { dst := some 77, op := Op.move (Operand.tmp 7), type := 2, pos := "laws.go:169", after := #[{ on := 6, ground := Ground.guard }], guard := some (6, false) }) (v := .int .i64 k) rfl (by kernel_rfl) (by kernel_rfl) (by kernel_rfl) (fun _ _ _ h => h) (Or.inl ⟨by rfl, ?_⟩) (by assumption) ?_
          · (intro w hSw; (try dsimp only at hSw); go_simp)
          try simp only [Act.put, List.setIfInBounds_toArray, List.set_cons_zero, List.set_cons_succ]
          refine wpAnyH_take (i := 11) (oi := { dst := some 79, op := Op.load 36 (Operand.tmp 8), type := 36, pos := "laws.go:169", after := #[{ on := 6, ground := Ground.guard }], guard := some (6, false) }) (v := .agg #[.int .i64 0, .int .i64 x]) rfl (by kernel_rfl) (by kernel_rfl) (by kernel_rfl) (fun _ _ _ h => h) (Or.inl ⟨by rfl, ?_⟩) (by assumption) ?_
          · (intro w hSw; (try dsimp only at hSw); go_simp)
          try simp only [Act.put, List.setIfInBounds_toArray, List.set_cons_zero, List.set_cons_succ]
          refine wpAnyH_ready (rs := [10]) (by kernel_rfl) (by simp) ?_
          refine AllReadyH.cons (o := { dst := some 78, op := Op.call { callee := Callee.value (Operand.func 12), args := #[Operand.tmp 76, Operand.tmp 77], argTypes := #[27, 2] }, type := 36, pos := "laws.go:169", after := #[{ on := 8, ground := Ground.data }, { on := 9, ground := Ground.data }, { on := 6, ground := Ground.chain }, { on := 6, ground := Ground.guard }], guard := some (6, false) }) rfl (fun K hK => ?_) AllReadyH.nil
          go_simp
          refine (implLoad_rd _ _ _ _ _ _ _ _ _ k x _ ((unhide N11).below (sleft' hHeld1))).mono ?_
          rintro r v2 ⟨rfl, hb5⟩
          refine hK.out _ _ (keepC8 m_R m_R m_R m_V m_V m_Q m_Q m_Q hHeld1 hb5) (fun hHeld2 => ?_)
          clear hb5
          clear hHeld1
          clear hK K
          try simp only [Act.put, List.setIfInBounds_toArray, List.set_cons_zero, List.set_cons_succ]
          refine wpAnyH_take (i := 12) (oi := { dst := some 80, op := Op.binOp BinOp.neq 36 (Operand.tmp 78) (Operand.tmp 79) 36, type := 4, pos := "laws.go:169", after := #[{ on := 10, ground := Ground.data }, { on := 11, ground := Ground.data }, { on := 6, ground := Ground.guard }], guard := some (6, false) }) (v := .bool false) rfl (by kernel_rfl) (by kernel_rfl) (by kernel_rfl) (fun _ _ _ h => h) (Or.inl ⟨by rfl, ?_⟩) (by assumption) ?_
          · (intro w hSw; (try dsimp only at hSw); go_simp)
          try simp only [Act.put, List.setIfInBounds_toArray, List.set_cons_zero, List.set_cons_succ]
          refine wpAnyH_take (i := 13) (oi := { dst := some 81, op := Op.pick (Operand.tmp 74) (Operand.const (Value.bool true)) (Operand.tmp 80), type := 4, pos := "laws.go:169", after := #[{ on := 6, ground := Ground.data }, { on := 12, ground := Ground.data }], guard := none }) (v := .bool false) rfl (by kernel_rfl) (by kernel_rfl) (by kernel_rfl) (fun _ _ _ h => h) (Or.inl ⟨by rfl, ?_⟩) (by assumption) ?_
          · (intro w hSw; (try dsimp only at hSw); go_simp)
          try simp only [Act.put, List.setIfInBounds_toArray, List.set_cons_zero, List.set_cons_succ]
          refine wpAnyH_take (i := 14) (oi := { dst := some 82, op := Op.move (Operand.tmp 81), type := 4, pos := "laws.go:169", after := #[{ on := 13, ground := Ground.data }, { on := 10, ground := Ground.chain }], guard := none }) (v := .bool false) rfl (by kernel_rfl) (by kernel_rfl) (by kernel_rfl) (fun _ _ _ h => h) (Or.inl ⟨by rfl, ?_⟩) (by assumption) ?_
          · (intro w hSw; (try dsimp only at hSw); go_simp)
          try simp only [Act.put, List.setIfInBounds_toArray, List.set_cons_zero, List.set_cons_succ]
          refine wpAnyH_take (i := 15) (oi := { dst := some 83, op := Op.move (Operand.tmp 7), type := 2, pos := "laws.go:169", after := #[{ on := 14, ground := Ground.guard }], guard := some (14, false) }) (v := .int .i64 k) rfl (by kernel_rfl) (by kernel_rfl) (by kernel_rfl) (fun _ _ _ h => h) (Or.inl ⟨by rfl, ?_⟩) (by assumption) ?_
          · (intro w hSw; (try dsimp only at hSw); go_simp)
          try simp only [Act.put, List.setIfInBounds_toArray, List.set_cons_zero, List.set_cons_succ]
          refine wpAnyH_take (i := 16) (oi := { dst := some 84, op := Op.binOp BinOp.quo 2 (Operand.tmp 83) (Operand.const (Value.int IntKind.i64 8)) 2, type := 2, pos := "laws.go:169", after := #[{ on := 15, ground := Ground.data }, { on := 14, ground := Ground.guard }], guard := some (14, false) }) (v := .int .i64 ((k : Int) / 8)) rfl (by kernel_rfl) (by kernel_rfl) (by kernel_rfl) (fun _ _ _ h => h) (Or.inl ⟨by rfl, ?_⟩) (by assumption) ?_
          · (intro w hSw; (try dsimp only at hSw); go_simp)
          try simp only [Act.put, List.setIfInBounds_toArray, List.set_cons_zero, List.set_cons_succ]
          refine wpAnyH_take (i := 17) (oi := { dst := some 85, op := Op.move (Operand.tmp 4), type := 2, pos := "laws.go:169", after := #[{ on := 14, ground := Ground.guard }], guard := some (14, false) }) (v := .int .i64 line) rfl (by kernel_rfl) (by kernel_rfl) (by kernel_rfl) (fun _ _ _ h => h) (Or.inl ⟨by rfl, ?_⟩) (by assumption) ?_
          · (intro w hSw; (try dsimp only at hSw); go_simp)
          try simp only [Act.put, List.setIfInBounds_toArray, List.set_cons_zero, List.set_cons_succ]
          refine wpAnyH_take (i := 18) (oi := { dst := some 86, op := Op.binOp BinOp.eql 2 (Operand.tmp 84) (Operand.tmp 85) 2, type := 4, pos := "laws.go:169", after := #[{ on := 16, ground := Ground.data }, { on := 17, ground := Ground.data }, { on := 14, ground := Ground.guard }], guard := some (14, false) }) (v := .bool false) rfl (by kernel_rfl) (by kernel_rfl) (by kernel_rfl) (fun _ _ _ h => h) (Or.inl ⟨by rfl, ?_⟩) (by assumption) ?_
          · (intro w hSw; (try dsimp only at hSw); go_simp)
          try simp only [Act.put, List.setIfInBounds_toArray, List.set_cons_zero, List.set_cons_succ]
          refine wpAnyH_take (i := 19) (oi := { dst := some 87, op := Op.move (Operand.tmp 86), type := 4, pos := "laws.go:169", after := #[{ on := 18, ground := Ground.data }, { on := 14, ground := Ground.chain }, { on := 14, ground := Ground.guard }], guard := some (14, false) }) (v := .bool false) rfl (by kernel_rfl) (by kernel_rfl) (by kernel_rfl) (fun _ _ _ h => h) (Or.inl ⟨by rfl, ?_⟩) (by assumption) ?_
          · (intro w hSw; (try dsimp only at hSw); go_simp)
          try simp only [Act.put, List.setIfInBounds_toArray, List.set_cons_zero, List.set_cons_succ]
          refine wpAnyH_take (i := 20) (oi := { dst := some 88, op := Op.fieldAddr 31 (Operand.tmp 6) 1, type := 0, pos := "laws.go:169", after := #[{ on := 19, ground := Ground.guard }], guard := some (19, true) }) (v := undef) rfl (by kernel_rfl) (by kernel_rfl) (by kernel_rfl) (fun _ _ _ h => h) (Or.inr ⟨by rfl, rfl⟩) (by assumption) ?_
          try simp only [Act.put, List.setIfInBounds_toArray, List.set_cons_zero, List.set_cons_succ]
          refine wpAnyH_take (i := 21) (oi := { dst := some 89, op := Op.fieldAddr 27 (Operand.tmp 88) 0, type := 0, pos := "laws.go:169", after := #[{ on := 20, ground := Ground.data }, { on := 19, ground := Ground.guard }], guard := some (19, true) }) (v := undef) rfl (by kernel_rfl) (by kernel_rfl) (by kernel_rfl) (fun _ _ _ h => h) (Or.inr ⟨by rfl, rfl⟩) (by assumption) ?_
          try simp only [Act.put, List.setIfInBounds_toArray, List.set_cons_zero, List.set_cons_succ]
          refine wpAnyH_take (i := 22) (oi := { dst := some 90, op := Op.load 24 (Operand.tmp 89), type := 24, pos := "laws.go:169", after := #[{ on := 21, ground := Ground.data }, { on := 19, ground := Ground.guard }], guard := some (19, true) }) (v := undef) rfl (by kernel_rfl) (by kernel_rfl) (by kernel_rfl) (fun _ _ _ h => h) (Or.inr ⟨by rfl, rfl⟩) (by assumption) ?_
          try simp only [Act.put, List.setIfInBounds_toArray, List.set_cons_zero, List.set_cons_succ]
          refine wpAnyH_take (i := 23) (oi := { dst := some 91, op := Op.move (Operand.tmp 7), type := 2, pos := "laws.go:169", after := #[{ on := 19, ground := Ground.guard }], guard := some (19, true) }) (v := undef) rfl (by kernel_rfl) (by kernel_rfl) (by kernel_rfl) (fun _ _ _ h => h) (Or.inr ⟨by rfl, rfl⟩) (by assumption) ?_
          try simp only [Act.put, List.setIfInBounds_toArray, List.set_cons_zero, List.set_cons_succ]
          refine wpAnyH_take (i := 24) (oi := { dst := some 92, op := Op.indexAddr 24 (Operand.tmp 90) (Operand.tmp 91), type := 0, pos := "laws.go:169", after := #[{ on := 22, ground := Ground.data }, { on := 23, ground := Ground.data }, { on := 19, ground := Ground.guard }], guard := some (19, true) }) (v := undef) rfl (by kernel_rfl) (by kernel_rfl) (by kernel_rfl) (fun _ _ _ h => h) (Or.inr ⟨by rfl, rfl⟩) (by assumption) ?_
          try simp only [Act.put, List.setIfInBounds_toArray, List.set_cons_zero, List.set_cons_succ]
          refine wpAnyH_take (i := 25) (oi := { dst := some 93, op := Op.load 2 (Operand.tmp 92), type := 2, pos := "laws.go:169", after := #[{ on := 24, ground := Ground.data }, { on := 19, ground := Ground.guard }], guard := some (19, true) }) (v := undef) rfl (by kernel_rfl) (by kernel_rfl) (by kernel_rfl) (fun _ _ _ h => h) (Or.inr ⟨by rfl, rfl⟩) (by assumption) ?_
          try simp only [Act.put, List.setIfInBounds_toArray, List.set_cons_zero, List.set_cons_succ]
          refine wpAnyH_take (i := 26) (oi := { dst := some 94, op := Op.fieldAddr 36 (Operand.tmp 8) 1, type := 0, pos := "laws.go:169", after := #[{ on := 19, ground := Ground.guard }], guard := some (19, true) }) (v := undef) rfl (by kernel_rfl) (by kernel_rfl) (by kernel_rfl) (fun _ _ _ h => h) (Or.inr ⟨by rfl, rfl⟩) (by assumption) ?_
          try simp only [Act.put, List.setIfInBounds_toArray, List.set_cons_zero, List.set_cons_succ]
          refine wpAnyH_take (i := 27) (oi := { dst := some 95, op := Op.load 2 (Operand.tmp 94), type := 2, pos := "laws.go:169", after := #[{ on := 26, ground := Ground.data }, { on := 19, ground := Ground.guard }], guard := some (19, true) }) (v := undef) rfl (by kernel_rfl) (by kernel_rfl) (by kernel_rfl) (fun _ _ _ h => h) (Or.inr ⟨by rfl, rfl⟩) (by assumption) ?_
          try simp only [Act.put, List.setIfInBounds_toArray, List.set_cons_zero, List.set_cons_succ]
          refine wpAnyH_take (i := 28) (oi := { dst := some 96, op := Op.binOp BinOp.neq 2 (Operand.tmp 93) (Operand.tmp 95) 2, type := 4, pos := "laws.go:169", after := #[{ on := 25, ground := Ground.data }, { on := 27, ground := Ground.data }, { on := 19, ground := Ground.guard }], guard := some (19, true) }) (v := undef) rfl (by kernel_rfl) (by kernel_rfl) (by kernel_rfl) (fun _ _ _ h => h) (Or.inr ⟨by rfl, rfl⟩) (by assumption) ?_
          try simp only [Act.put, List.setIfInBounds_toArray, List.set_cons_zero, List.set_cons_succ]
          refine wpAnyH_take (i := 29) (oi := { dst := some 97, op := Op.pick (Operand.tmp 87) (Operand.tmp 96) (Operand.const (Value.bool false)), type := 4, pos := "laws.go:169", after := #[{ on := 19, ground := Ground.data }, { on := 28, ground := Ground.data }, { on := 14, ground := Ground.guard }], guard := some (14, false) }) (v := .bool false) rfl (by kernel_rfl) (by kernel_rfl) (by kernel_rfl) (fun _ _ _ h => h) (Or.inl ⟨by rfl, ?_⟩) (by assumption) ?_
          · (intro w hSw; (try dsimp only at hSw); go_simp)
          try simp only [Act.put, List.setIfInBounds_toArray, List.set_cons_zero, List.set_cons_succ]
          refine wpAnyH_take (i := 30) (oi := { dst := some 98, op := Op.pick (Operand.tmp 82) (Operand.const (Value.bool true)) (Operand.tmp 97), type := 4, pos := "laws.go:169", after := #[{ on := 14, ground := Ground.data }, { on := 29, ground := Ground.data }], guard := none }) (v := .bool false) rfl (by kernel_rfl) (by kernel_rfl) (by kernel_rfl) (fun _ _ _ h => h) (Or.inl ⟨by rfl, ?_⟩) (by assumption) ?_
          · (intro w hSw; (try dsimp only at hSw); go_simp)
          try simp only [Act.put, List.setIfInBounds_toArray, List.set_cons_zero, List.set_cons_succ]
          refine wpAnyH_done (by kernel_rfl) ?_ _
          have hbS := hHeld2.1
          clear hHeld2 HD m_Q m_R m_V
          generalize hwn : v2 = w212 at *
          clear hwn
          have z12 : W11.heap.size ≤ w212.heap.size := hbS.size
          have D12 := hide ((unhide D11).below hbS)
          have P12 := hide ((unhide P11).below hbS)
          have R12 := hide ((unhide R11).below hbS)
          have F12 := hide ((unhide F11).below hbS)
          have E12 := hide ((unhide E11).below hbS)
          have Q12 := hide ((unhide Q11).below hbS)
          have M12 := hide ((unhide M11).below hbS)
          have N12 := hide ((unhide N11).below hbS)
          have V12 := hide ((unhide V11).below hbS)
          have B12 := hide (below_step (unhide B11) hbS (by omega))
          have Y12 := hide (below_step (unhide Y11) hbS (by omega))
          clear hbS D11 P11 R11 F11 E11 Q11 M11 N11 V11 B11 Y11
          clear hqb hnx hN
          go_wp2_with fail
          exact ⟨⟨k + 1, by omega, by go_num, Y12⟩, by simp [intOf]; omega⟩
      · skip
        have hlt' : ¬ (k : Int) < D.words.length := by omega
        have cp0 := (unhide P9).cell 0
        have cp1 := (unhide P9).cell 1
        have cp2 := (unhide P9).cell 2
        simp at cp0 cp1 cp2
        have lcp : b2 < w9.heap.size := by omega
        go_wp2_with fail
        clear cp0 cp1 cp2 lcp
        have h00 : ((0 : Int) == 0) = true := rfl
        have P_0 := (unhide P9).cell 0
        have P_1 := (unhide P9).cell 1
        have P_2 := (unhide P9).cell 2
        have m_P : b2 < w9.heap.size := by omega
        simp at P_0 P_1 P_2
        have hD : (fun w' => Below w9.heap.size w9 w' ∧ w'.cell? ⟨b2, 0, none⟩ = some (.slice a1 D.words.length c1) ∧ w'.cell? ⟨b2, 1, none⟩ = some (.slice a2 D.flights.length c2) ∧ w'.cell? ⟨b2, 2, none⟩ = some (.slice a3 D.over.length c3)) w9.drew := ⟨(Below.refl _ _).drew, P_0, P_1, P_2⟩
        have HD := hide hD
        clear hD P_0 P_1 P_2
        go_region_held3 (fun w' => Below w9.heap.size w9 w' ∧ w'.cell? ⟨b2, 0, none⟩ = some (.slice a1 D.words.length c1) ∧ w'.cell? ⟨b2, 1, none⟩ = some (.slice a2 D.flights.length c2) ∧ w'.cell? ⟨b2, 2, none⟩ = some (.slice a3 D.over.length c3)) (first | exact unhide HD | assumption | exact keepC3 m_P m_P m_P (by assumption) (by assumption))
          (first
            | (go_at_call 21; refine (specFence_good a1 a2 a3 c1 c2 c3 D _ ((unhide D9).below (sleft' (by assumption))) (unhide HG)).mono ?_; rintro r w5 ⟨⟨v1, v2, v3, rfl⟩, hb5⟩)
            | (go_at_call 20; refine (implFence_good a1 a2 a3 c1 c2 c3 D _ ((unhide D9).below (sleft' (by assumption))) (unhide HG)).mono ?_; rintro r w5 ⟨⟨p1, q1, p2, q2, p3, q3, rfl, -⟩, hb5⟩))
        rename_i hSF
        have hbS := hSF.1
        clear hSF HD m_P
        generalize hwn : w5 = w210 at *
        clear hwn
        have z10 : w9.heap.size ≤ w210.heap.size := hbS.size
        have D10 := hide ((unhide D9).below hbS)
        have P10 := hide ((unhide P9).below hbS)
        have R10 := hide ((unhide R9).below hbS)
        have F10 := hide ((unhide F9).below hbS)
        have E10 := hide ((unhide E9).below hbS)
        have Q10 := hide ((unhide Q9).below hbS)
        have B10 := hide (below_step (unhide B9) hbS (by omega))
        have Y10 := hide (below_step (unhide hbr) hbS (by omega))
        clear hbS D9 P9 R9 F9 E9 Q9 B9 hbr
        go_wp2_with fail
        go_ret
        exact ⟨rfl, unhide B10⟩
  · skip
    have e0 : (cd != 0) = true := by simpa using hc0
    clear hc0 hfd
    have cr0 := (unhide R5).cell 0
    simp at cr0
    have lcr : b4 < w205.heap.size := by omega
    go_wp2_with fail
    clear cr0 lcr
    go_ret
    exact ⟨rfl, unhide B5⟩
end fnFences
end Go.Proofs.Ytgckkehlnahfmaa
