/-
  The walk of laws.FnStores: it returns true, and writes nothing that was there.
-/
import Derived.Test.YtgckkehlnahfmaaDraw2Place
import Derived.Test.YtgckkehlnahfmaaFncKit
import Derived.Test.YtgckkehlnahfmaaLwNums
import Derived.Deep.RegionHeld3
namespace Go.Proofs.Ytgckkehlnahfmaa
open Go.RowKit
set_option linter.unusedVariables false

theorem sleft' {W0 w' : World} {p : Prop} (h : Below W0.heap.size W0 w' ∧ p) : Below W0.heap.size W0 w' := h.1
theorem setC_few (l : List (Int × Int)) (x : Int × Int) : (setC l x).length ≤ l.length + 1 := by
  have := fold_setC_len [x] l
  simpa using this
theorem keepC5 {W0 w' w1 : World} {b0 b1 b2 b3 b4 o0 o1 o2 o3 o4 : Nat} {v0 v1 v2 v3 v4 : Value} (h0 : b0 < W0.heap.size) (h1 : b1 < W0.heap.size) (h2 : b2 < W0.heap.size) (h3 : b3 < W0.heap.size) (h4 : b4 < W0.heap.size) (hS : Below W0.heap.size W0 w' ∧ w'.cell? ⟨b0, o0, none⟩ = some v0 ∧ w'.cell? ⟨b1, o1, none⟩ = some v1 ∧ w'.cell? ⟨b2, o2, none⟩ = some v2 ∧ w'.cell? ⟨b3, o3, none⟩ = some v3 ∧ w'.cell? ⟨b4, o4, none⟩ = some v4) (hb : Below w'.heap.size w' w1) : Below W0.heap.size W0 w1 ∧ w1.cell? ⟨b0, o0, none⟩ = some v0 ∧ w1.cell? ⟨b1, o1, none⟩ = some v1 ∧ w1.cell? ⟨b2, o2, none⟩ = some v2 ∧ w1.cell? ⟨b3, o3, none⟩ = some v3 ∧ w1.cell? ⟨b4, o4, none⟩ = some v4 := by
  obtain ⟨h, d0, d1, d2, d3, d4⟩ := hS
  have hz := h.size
  exact ⟨h.trans (hb.mono hz), ((bcell hb).1 _ _ (by omega)).trans d0, ((bcell hb).1 _ _ (by omega)).trans d1, ((bcell hb).1 _ _ (by omega)).trans d2, ((bcell hb).1 _ _ (by omega)).trans d3, ((bcell hb).1 _ _ (by omega)).trans d4⟩
theorem keepC7 {W0 w' w1 : World} {b0 b1 b2 b3 b4 b5 b6 o0 o1 o2 o3 o4 o5 o6 : Nat} {v0 v1 v2 v3 v4 v5 v6 : Value} (h0 : b0 < W0.heap.size) (h1 : b1 < W0.heap.size) (h2 : b2 < W0.heap.size) (h3 : b3 < W0.heap.size) (h4 : b4 < W0.heap.size) (h5 : b5 < W0.heap.size) (h6 : b6 < W0.heap.size) (hS : Below W0.heap.size W0 w' ∧ w'.cell? ⟨b0, o0, none⟩ = some v0 ∧ w'.cell? ⟨b1, o1, none⟩ = some v1 ∧ w'.cell? ⟨b2, o2, none⟩ = some v2 ∧ w'.cell? ⟨b3, o3, none⟩ = some v3 ∧ w'.cell? ⟨b4, o4, none⟩ = some v4 ∧ w'.cell? ⟨b5, o5, none⟩ = some v5 ∧ w'.cell? ⟨b6, o6, none⟩ = some v6) (hb : Below w'.heap.size w' w1) : Below W0.heap.size W0 w1 ∧ w1.cell? ⟨b0, o0, none⟩ = some v0 ∧ w1.cell? ⟨b1, o1, none⟩ = some v1 ∧ w1.cell? ⟨b2, o2, none⟩ = some v2 ∧ w1.cell? ⟨b3, o3, none⟩ = some v3 ∧ w1.cell? ⟨b4, o4, none⟩ = some v4 ∧ w1.cell? ⟨b5, o5, none⟩ = some v5 ∧ w1.cell? ⟨b6, o6, none⟩ = some v6 := by
  obtain ⟨h, d0, d1, d2, d3, d4, d5, d6⟩ := hS
  have hz := h.size
  exact ⟨h.trans (hb.mono hz), ((bcell hb).1 _ _ (by omega)).trans d0, ((bcell hb).1 _ _ (by omega)).trans d1, ((bcell hb).1 _ _ (by omega)).trans d2, ((bcell hb).1 _ _ (by omega)).trans d3, ((bcell hb).1 _ _ (by omega)).trans d4, ((bcell hb).1 _ _ (by omega)).trans d5, ((bcell hb).1 _ _ (by omega)).trans d6⟩

namespace fnStores
set_option maxRecDepth 20000 in
theorem no (a : Option Addr) (n c : Nat) (w : World) (hn : ¬ (n : Int) ≤ 1048576) :
    Calls Try.prog 3 #[.slice a n c] w fun r w' => r = .returned (.bool true) ∧ Below w.heap.size w w' := by
  go_enter Try.func3, Try.ntmps3
  go_wp2_with (go_at_call 7; go_in)
  go_ret
  exact ⟨rfl, Below.refl _ _⟩

set_option maxRecDepth 20000 in
set_option maxHeartbeats 4000000 in
theorem yes (a : Option Addr) (n c : Nat) (w : World) (h : CodeAt w a n) (hn : n ≤ 1048576) :
    Calls Try.prog 3 #[.slice a n c] w fun r w' => r = .returned (.bool true) ∧ Below w.heap.size w w' := by
  have hn' : ¬ (1048576 : Int) < n := by omega
  have AZ := hide h
  clear h
  go_enter Try.func3, Try.ntmps3
  go_wp2_with (go_at_call 7; go_in)
  refine (drawStoreWord_any a n c _ (unhide AZ) hn).mono ?_
  rintro e w1 ⟨⟨a1, c1, a2, c2, a3, c3, D, at_, val, rfl, hR, hF⟩, hb⟩
  have z1 : w.heap.size ≤ w1.heap.size := hb.size
  have A1 := hide ((unhide AZ).below hb)
  have B1 := hide hb
  clear hb AZ
  obtain ⟨hF1, hF2, hF3⟩ := hF
  have DX : Hid (DevRd w1 a1 a2 a3 D) := hide ⟨hR.r, by omega, by omega, by omega⟩
  have HL := hide hF3
  clear hR hF1 hF2 hF3
  have n1 := (unhide DX).n1
  have n2 := (unhide DX).n2
  have n3 := (unhide DX).n3
  go_wp2_with fail
  obtain ⟨W2, hW, z2, hbx, hx⟩ := boxes1 w1 [.slice a1 D.words.length c1, .slice a2 D.flights.length c2, .slice a3 D.over.length c3] 27
  rw [← hW]
  clear hW
  have A2 := hide ((unhide A1).below (unhide hbx))
  have D2 := hide ((unhide DX).below (unhide hbx))
  have B2 := hide (below_step (unhide B1) (unhide hbx) (by omega))
  have P2 := hx
  clear hbx hx A1 DX B1
  have u2 : w1.heap.size < W2.heap.size := by omega
  generalize w1.heap.size = b2 at *
  refine (implStoreWord_any a1 a2 a3 c1 c2 c3 D at_ val _ (unhide D2).r n1 n2 n3).mono ?_
  rintro e w3 ⟨hres, hb⟩
  obtain ⟨f1, g1, f2, g2, f3, g3, rfl, hf⟩ := resIs_at hres
  clear hres
  obtain ⟨cd, hcd⟩ : ∃ cd, cd = chgCode D (storeCode D at_ val) := ⟨_, rfl⟩
  obtain ⟨F, hFD⟩ : ∃ F, F = chgDev D (storeCode D at_ val) (storeDev D at_ val) := ⟨_, rfl⟩
  rw [← hFD] at hf
  rw [← hcd, ← hFD]
  have HCD := hide hcd
  have HFD := hide hFD
  clear hcd hFD
  have z3 : W2.heap.size ≤ w3.heap.size := hb.size
  have A3 := hide ((unhide A2).below hb)
  have D3 := hide ((unhide D2).below hb)
  have P3 := hide ((unhide P2).below hb)
  have B3 := hide (below_step (unhide B2) hb (by omega))
  clear hb A2 D2 P2 B2
  have FX := hide hf
  clear hf
  go_wp2_with fail
  obtain ⟨W4, hW, z4, hbx, hx⟩ := boxes1 w3 [.int .i64 cd, .slice f1 F.words.length g1, .slice f2 F.flights.length g2, .slice f3 F.over.length g3] 31
  rw [← hW]
  clear hW
  have A4 := hide ((unhide A3).below (unhide hbx))
  have D4 := hide ((unhide D3).below (unhide hbx))
  have P4 := hide ((unhide P3).below (unhide hbx))
  have F4 := hide ((unhide FX).below (unhide hbx))
  have B4 := hide (below_step (unhide B3) (unhide hbx) (by omega))
  have R4 := hx
  clear hbx hx A3 D3 P3 FX B3
  have u4 : w3.heap.size < W4.heap.size := by omega
  generalize w3.heap.size = b4 at *
  refine (drawLoadWord_any a n c _ (unhide A4) hn).mono ?_
  rintro e w5 ⟨⟨x1, y1, x2, y2, x3, y3, E, place, rfl, hR, hF⟩, hb⟩
  have z5 : W4.heap.size ≤ w5.heap.size := hb.size
  have A5 := hide ((unhide A4).below hb)
  have D5 := hide ((unhide D4).below hb)
  have P5 := hide ((unhide P4).below hb)
  have F5 := hide ((unhide F4).below hb)
  have R5 := hide ((unhide R4).below hb)
  have B5 := hide (below_step (unhide B4) hb (by omega))
  clear hb A4 D4 P4 F4 R4 B4
  obtain ⟨hF1, hF2, hF3⟩ := hF
  have EX : Hid (DevRd w5 x1 x2 x3 E) := hide ⟨hR.r, by omega, by omega, by omega⟩
  clear hR hF1 hF2 hF3
  have m1 := (unhide EX).n1
  have m2 := (unhide EX).n2
  have m3 := (unhide EX).n3
  go_wp2_with fail
  obtain ⟨W6, hW, z6, hbx, hx⟩ := boxes1 w5 [.slice x1 E.words.length y1, .slice x2 E.flights.length y2, .slice x3 E.over.length y3] 27
  rw [← hW]
  clear hW
  have A6 := hide ((unhide A5).below (unhide hbx))
  have D6 := hide ((unhide D5).below (unhide hbx))
  have P6 := hide ((unhide P5).below (unhide hbx))
  have F6 := hide ((unhide F5).below (unhide hbx))
  have R6 := hide ((unhide R5).below (unhide hbx))
  have E6 := hide ((unhide EX).below (unhide hbx))
  have B6 := hide (below_step (unhide B5) (unhide hbx) (by omega))
  have X6 := hx
  clear hbx hx A5 D5 P5 F5 R5 EX B5
  have u6 : w5.heap.size < W6.heap.size := by omega
  generalize w5.heap.size = b6 at *
  have hfd : ∀ (x : Int) (v1 v2 v3 : Value) (w : World), (Instr.field 31 (.agg #[.int .i64 x, v1, v2, v3]) 0).run Try.prog w = .ok (.int .i64 x) w := fun x v1 v2 v3 w => by kernel_rfl
  have hne := int_neq_self cd
  have hne2 := int_neq_self (devFault D)
  have hN := neq_int2 (loadCode E place) (loadVal E place)
  have R_0 := (unhide R6).cell 0
  have m_R : b4 < W6.heap.size := by omega
  have P_0 := (unhide P6).cell 0
  have P_1 := (unhide P6).cell 1
  have P_2 := (unhide P6).cell 2
  have m_P : b2 < W6.heap.size := by omega
  have X_0 := (unhide X6).cell 0
  have X_1 := (unhide X6).cell 1
  have X_2 := (unhide X6).cell 2
  have m_X : b6 < W6.heap.size := by omega
  simp at R_0 P_0 P_1 P_2 X_0 X_1 X_2
  have hD : (fun w' => Below W6.heap.size W6 w' ∧ w'.cell? ⟨b4, 0, none⟩ = some (.int .i64 cd) ∧ w'.cell? ⟨b2, 0, none⟩ = some (.slice a1 D.words.length c1) ∧ w'.cell? ⟨b2, 1, none⟩ = some (.slice a2 D.flights.length c2) ∧ w'.cell? ⟨b2, 2, none⟩ = some (.slice a3 D.over.length c3) ∧ w'.cell? ⟨b6, 0, none⟩ = some (.slice x1 E.words.length y1) ∧ w'.cell? ⟨b6, 1, none⟩ = some (.slice x2 E.flights.length y2) ∧ w'.cell? ⟨b6, 2, none⟩ = some (.slice x3 E.over.length y3)) W6.drew := ⟨(Below.refl _ _).drew, R_0, P_0, P_1, P_2, X_0, X_1, X_2⟩
  have HD := hide hD
  clear hD R_0 P_0 P_1 P_2 X_0 X_1 X_2
  go_region_held3 (fun w' => Below W6.heap.size W6 w' ∧ w'.cell? ⟨b4, 0, none⟩ = some (.int .i64 cd) ∧ w'.cell? ⟨b2, 0, none⟩ = some (.slice a1 D.words.length c1) ∧ w'.cell? ⟨b2, 1, none⟩ = some (.slice a2 D.flights.length c2) ∧ w'.cell? ⟨b2, 2, none⟩ = some (.slice a3 D.over.length c3) ∧ w'.cell? ⟨b6, 0, none⟩ = some (.slice x1 E.words.length y1) ∧ w'.cell? ⟨b6, 1, none⟩ = some (.slice x2 E.flights.length y2) ∧ w'.cell? ⟨b6, 2, none⟩ = some (.slice x3 E.over.length y3)) (first | exact unhide HD | assumption | exact keepC7 m_R m_P m_P m_P m_X m_X m_X (by assumption) (by assumption))
    (first
      | (go_at_call 11; refine (specStoreWord_any a1 a2 a3 c1 c2 c3 D at_ val _ ((unhide D6).below (sleft' (by assumption))).r n1 n2 n3).mono ?_; rintro r w5 ⟨⟨p1, q1, p2, q2, p3, q3, rfl, -⟩, hb5⟩; rw [← unhide HCD])
      | (go_at_call 12; refine (implLoadWord_any x1 x2 x3 y1 y2 y3 E place _ ((unhide E6).below (sleft' (by assumption))).r m1 m2 m3).mono ?_; rintro r w5 ⟨rfl, hb5⟩)
      | (go_at_call 13; refine (specLoadWord_any x1 x2 x3 y1 y2 y3 E place _ ((unhide E6).below (sleft' (by assumption))).r m1 m2 m3).mono ?_; rintro r w5 ⟨rfl, hb5⟩)
      | (go_at_call 14; refine (implDeviceFault_any a1 a2 a3 c1 c2 c3 D _ ((unhide D6).below (sleft' (by assumption))).r n1 n2 n3).mono ?_; rintro r w5 ⟨rfl, hb5⟩)
      | (go_at_call 15; refine (specDeviceFault_any a1 a2 a3 c1 c2 c3 D _ ((unhide D6).below (sleft' (by assumption))).r n1 n2 n3).mono ?_; rintro r w5 ⟨rfl, hb5⟩))
  rename_i hSF
  have hbS := hSF.1
  clear hSF HD m_P m_R m_X
  generalize hwn : w5 = w207 at *
  clear hwn
  have z7 : W6.heap.size ≤ w207.heap.size := hbS.size
  have A7 := hide ((unhide A6).below hbS)
  have D7 := hide ((unhide D6).below hbS)
  have P7 := hide ((unhide P6).below hbS)
  have F7 := hide ((unhide F6).below hbS)
  have R7 := hide ((unhide R6).below hbS)
  have E7 := hide ((unhide E6).below hbS)
  have X7 := hide ((unhide X6).below hbS)
  have B7 := hide (below_step (unhide B6) hbS (by omega))
  clear hbS A6 D6 P6 F6 R6 E6 X6 B6
  clear hne hne2 hN E7 X7 A7
  by_cases hc0 : cd = 0
  · skip
    have e0 : (cd != 0) = false := by simpa using hc0
    have hch : chgCode D (storeCode D at_ val) = 0 := (unhide HCD).symm.trans hc0
    have hFl : F = storeDev D at_ val := (unhide HFD).trans (chgDev_ok hch)
    have HG : Hid (Good D) := hide (chg_ok hch).1
    have HGF : Hid (Good F) := hide (by rw [hFl]; exact (unhide HG).store (chg_ok hch).2)
    have hwl : F.words.length = D.words.length := by rw [hFl]; rfl
    have FR : Hid (DevRd w207 f1 f2 f3 F) := hide ⟨unhide F7, by rw [hFl]; exact n1, by rw [hFl]; exact n2, by rw [hFl]; exact Nat.le_trans (setC_few D.over (at_, val)) (by have := unhide HL; omega)⟩
    have FW : Hid (IntsAt w207 f1 D.words) := hide (by have := (unhide F7).r1; rw [hFl] at this; exact this)
    have RX : Hid (Box w207 b4 [.int .i64 cd, .slice f1 D.words.length g1, .slice f2 F.flights.length g2, .slice f3 F.over.length g3] 31) := hide (by rw [← hwl]; exact unhide R7)
    have HFl := hide hFl
    have HWL := hide hwl
    clear hFl hch hc0 HCD HFD hwl HL F7 R7
    have cr0 := (unhide RX).cell 0
    have cr1 := (unhide RX).cell 1
    have cr2 := (unhide RX).cell 2
    have cr3 := (unhide RX).cell 3
    simp at cr0 cr1 cr2 cr3
    have lcr : b4 < w207.heap.size := by omega
    have cp0 := (unhide P7).cell 0
    have cp1 := (unhide P7).cell 1
    have cp2 := (unhide P7).cell 2
    simp at cp0 cp1 cp2
    have lcp : b2 < w207.heap.size := by omega
    go_wp2_with fail
    clear cr0 cr1 cr2 cr3 lcr cp0 cp1 cp2 lcp
    go_loopw [9] (fun i wr => ∃ k : Nat, k ≤ D.words.length ∧ i = .int .i64 k ∧ Hid (Below w207.heap.size w207 wr)) (fun i _ => D.words.length - (intOf i).toNat)
    case atStart => exact ⟨0, Nat.zero_le _, rfl, hide (Below.refl _ _)⟩
    case round =>
      obtain ⟨k, hkl, rfl, hbr⟩ := hrel
      obtain ⟨w8, rfl⟩ : ∃ x : World, x = wr := ⟨_, rfl⟩
      have z8 : w207.heap.size ≤ w8.heap.size := (unhide hbr).size
      have D8 := hide ((unhide D7).below (unhide hbr))
      have P8 := hide ((unhide P7).below (unhide hbr))
      have R8 := hide ((unhide RX).below (unhide hbr))
      have F8 := hide ((unhide FR).below (unhide hbr))
      have I8 := hide ((unhide FW).below (unhide hbr))
      have B8 := hide (below_step (unhide B7) (unhide hbr) (by omega))
      clear D7 P7 RX FR FW B7
      by_cases hlt : k < D.words.length
      · skip
        have hlt' : (k : Int) < D.words.length := by omega
        obtain ⟨x, hx⟩ : ∃ x, load D k = x := ⟨_, rfl⟩
        have HX := hide hx
        have hltF : k < F.words.length := by rw [unhide HWL]; exact hlt
        have hls := load_store D at_ val k
        rw [← unhide HFl] at hls
        by_cases hka : (k : Int) = at_
        · skip
          rw [if_pos hka] at hls
          have RF : Hid (LoadRd w8 f1 f2 f3 D.words.length F.flights.length F.over.length k val) := hide ⟨F, unhide F8, (unhide HWL).symm, rfl, rfl, unhide HGF, hltF, hls⟩
          have hkb : ((k : Int) == at_) = true := by simpa using hka
          clear hka hls hx
          have cp0 := (unhide P8).cell 0
          have cp1 := (unhide P8).cell 1
          have cp2 := (unhide P8).cell 2
          simp at cp0 cp1 cp2
          have lcp : b2 < w8.heap.size := by omega
          go_wp2_with fail
          clear cp0 cp1 cp2 lcp
          refine (specLoad_is a1 a2 a3 c1 c2 c3 _ _ _ D k x _ (unhide D8) rfl rfl rfl (unhide HG) hlt (unhide HX)).mono ?_
          rintro e w9 ⟨rfl, hb⟩
          have z9 : w8.heap.size ≤ w9.heap.size := hb.size
          have D9 := hide ((unhide D8).below hb)
          have P9 := hide ((unhide P8).below hb)
          have R9 := hide ((unhide R8).below hb)
          have F9 := hide ((unhide F8).below hb)
          have I9 := hide ((unhide I8).below hb)
          have M9 := hide ((unhide RF).below hb)
          have B9 := hide (below_step (unhide B8) hb (by omega))
          have Y9 := hide (below_step (unhide hbr) hb (by omega))
          clear hb D8 P8 R8 F8 I8 RF B8 hbr
          go_wp2_with fail
          obtain ⟨W10, hW, z10, hbx, hx⟩ := boxes1 w9 [.int .i64 0, .int .i64 val] 36
          rw [← hW]
          clear hW
          have D10 := hide ((unhide D9).below (unhide hbx))
          have P10 := hide ((unhide P9).below (unhide hbx))
          have R10 := hide ((unhide R9).below (unhide hbx))
          have F10 := hide ((unhide F9).below (unhide hbx))
          have I10 := hide ((unhide I9).below (unhide hbx))
          have M10 := hide ((unhide M9).below (unhide hbx))
          have B10 := hide (below_step (unhide B9) (unhide hbx) (by omega))
          have V10 := hx
          have Y10 := hide (below_step (unhide Y9) (unhide hbx) (by omega))
          clear hbx hx D9 P9 R9 F9 I9 M9 B9 Y9
          have u10 : w9.heap.size < W10.heap.size := by omega
          generalize w9.heap.size = b10 at *
          have hN := neq_int2 0 val
          have R_1 := (unhide R10).cell 1
          have R_2 := (unhide R10).cell 2
          have R_3 := (unhide R10).cell 3
          have m_R : b4 < W10.heap.size := by omega
          have V_0 := (unhide V10).cell 0
          have V_1 := (unhide V10).cell 1
          have m_V : b10 < W10.heap.size := by omega
          simp at R_1 R_2 R_3 V_0 V_1
          have hD : (fun w' => Below W10.heap.size W10 w' ∧ w'.cell? ⟨b4, 1, none⟩ = some (.slice f1 D.words.length g1) ∧ w'.cell? ⟨b4, 2, none⟩ = some (.slice f2 F.flights.length g2) ∧ w'.cell? ⟨b4, 3, none⟩ = some (.slice f3 F.over.length g3) ∧ w'.cell? ⟨b10, 0, none⟩ = some (.int .i64 0) ∧ w'.cell? ⟨b10, 1, none⟩ = some (.int .i64 val)) W10.drew := ⟨(Below.refl _ _).drew, R_1, R_2, R_3, V_0, V_1⟩
          have HD := hide hD
          clear hD R_1 R_2 R_3 V_0 V_1
          go_region_held3 (fun w' => Below W10.heap.size W10 w' ∧ w'.cell? ⟨b4, 1, none⟩ = some (.slice f1 D.words.length g1) ∧ w'.cell? ⟨b4, 2, none⟩ = some (.slice f2 F.flights.length g2) ∧ w'.cell? ⟨b4, 3, none⟩ = some (.slice f3 F.over.length g3) ∧ w'.cell? ⟨b10, 0, none⟩ = some (.int .i64 0) ∧ w'.cell? ⟨b10, 1, none⟩ = some (.int .i64 val)) (first | exact unhide HD | assumption | exact keepC5 m_R m_R m_R m_V m_V (by assumption) (by assumption))
            (first
              | (go_at_call 12; refine (implLoad_rd _ _ _ _ _ _ _ _ _ k val _ ((unhide M10).below (sleft' (by assumption)))).mono ?_; rintro r w5 ⟨rfl, hb5⟩))
          rename_i hSF
          have hbS := hSF.1
          clear hSF HD m_R m_V
          generalize hwn : w5 = w211 at *
          clear hwn
          have z11 : W10.heap.size ≤ w211.heap.size := hbS.size
          have D11 := hide ((unhide D10).below hbS)
          have P11 := hide ((unhide P10).below hbS)
          have R11 := hide ((unhide R10).below hbS)
          have F11 := hide ((unhide F10).below hbS)
          have I11 := hide ((unhide I10).below hbS)
          have M11 := hide ((unhide M10).below hbS)
          have V11 := hide ((unhide V10).below hbS)
          have B11 := hide (below_step (unhide B10) hbS (by omega))
          have Y11 := hide (below_step (unhide Y10) hbS (by omega))
          clear hbS D10 P10 R10 F10 I10 M10 V10 B10 Y10
          clear hN hkb
          go_wp2_with fail
          exact ⟨⟨k + 1, by omega, by go_num, Y11⟩, by simp [intOf]; omega⟩
        · skip
          rw [if_neg hka] at hls
          rw [hx] at hls
          have RF : Hid (LoadRd w8 f1 f2 f3 D.words.length F.flights.length F.over.length k x) := hide ⟨F, unhide F8, (unhide HWL).symm, rfl, rfl, unhide HGF, hltF, hls⟩
          have hkb : ((k : Int) == at_) = false := by simpa using hka
          clear hka hls hx
          have cp0 := (unhide P8).cell 0
          have cp1 := (unhide P8).cell 1
          have cp2 := (unhide P8).cell 2
          simp at cp0 cp1 cp2
          have lcp : b2 < w8.heap.size := by omega
          go_wp2_with fail
          clear cp0 cp1 cp2 lcp
          refine (specLoad_is a1 a2 a3 c1 c2 c3 _ _ _ D k x _ (unhide D8) rfl rfl rfl (unhide HG) hlt (unhide HX)).mono ?_
          rintro e w9 ⟨rfl, hb⟩
          have z9 : w8.heap.size ≤ w9.heap.size := hb.size
          have D9 := hide ((unhide D8).below hb)
          have P9 := hide ((unhide P8).below hb)
          have R9 := hide ((unhide R8).below hb)
          have F9 := hide ((unhide F8).below hb)
          have I9 := hide ((unhide I8).below hb)
          have M9 := hide ((unhide RF).below hb)
          have B9 := hide (below_step (unhide B8) hb (by omega))
          have Y9 := hide (below_step (unhide hbr) hb (by omega))
          clear hb D8 P8 R8 F8 I8 RF B8 hbr
          go_wp2_with fail
          obtain ⟨W10, hW, z10, hbx, hx⟩ := boxes1 w9 [.int .i64 0, .int .i64 x] 36
          rw [← hW]
          clear hW
          have D10 := hide ((unhide D9).below (unhide hbx))
          have P10 := hide ((unhide P9).below (unhide hbx))
          have R10 := hide ((unhide R9).below (unhide hbx))
          have F10 := hide ((unhide F9).below (unhide hbx))
          have I10 := hide ((unhide I9).below (unhide hbx))
          have M10 := hide ((unhide M9).below (unhide hbx))
          have B10 := hide (below_step (unhide B9) (unhide hbx) (by omega))
          have V10 := hx
          have Y10 := hide (below_step (unhide Y9) (unhide hbx) (by omega))
          clear hbx hx D9 P9 R9 F9 I9 M9 B9 Y9
          have u10 : w9.heap.size < W10.heap.size := by omega
          generalize w9.heap.size = b10 at *
          have hN := neq_int2 0 x
          have R_1 := (unhide R10).cell 1
          have R_2 := (unhide R10).cell 2
          have R_3 := (unhide R10).cell 3
          have m_R : b4 < W10.heap.size := by omega
          have V_0 := (unhide V10).cell 0
          have V_1 := (unhide V10).cell 1
          have m_V : b10 < W10.heap.size := by omega
          simp at R_1 R_2 R_3 V_0 V_1
          have hD : (fun w' => Below W10.heap.size W10 w' ∧ w'.cell? ⟨b4, 1, none⟩ = some (.slice f1 D.words.length g1) ∧ w'.cell? ⟨b4, 2, none⟩ = some (.slice f2 F.flights.length g2) ∧ w'.cell? ⟨b4, 3, none⟩ = some (.slice f3 F.over.length g3) ∧ w'.cell? ⟨b10, 0, none⟩ = some (.int .i64 0) ∧ w'.cell? ⟨b10, 1, none⟩ = some (.int .i64 x)) W10.drew := ⟨(Below.refl _ _).drew, R_1, R_2, R_3, V_0, V_1⟩
          have HD := hide hD
          clear hD R_1 R_2 R_3 V_0 V_1
          go_region_held3 (fun w' => Below W10.heap.size W10 w' ∧ w'.cell? ⟨b4, 1, none⟩ = some (.slice f1 D.words.length g1) ∧ w'.cell? ⟨b4, 2, none⟩ = some (.slice f2 F.flights.length g2) ∧ w'.cell? ⟨b4, 3, none⟩ = some (.slice f3 F.over.length g3) ∧ w'.cell? ⟨b10, 0, none⟩ = some (.int .i64 0) ∧ w'.cell? ⟨b10, 1, none⟩ = some (.int .i64 x)) (first | exact unhide HD | assumption | exact keepC5 m_R m_R m_R m_V m_V (by assumption) (by assumption))
            (first
              | (go_at_call 12; refine (implLoad_rd _ _ _ _ _ _ _ _ _ k x _ ((unhide M10).below (sleft' (by assumption)))).mono ?_; rintro r w5 ⟨rfl, hb5⟩))
          rename_i hSF
          have hbS := hSF.1
          clear hSF HD m_R m_V
          generalize hwn : w5 = w211 at *
          clear hwn
          have z11 : W10.heap.size ≤ w211.heap.size := hbS.size
          have D11 := hide ((unhide D10).below hbS)
          have P11 := hide ((unhide P10).below hbS)
          have R11 := hide ((unhide R10).below hbS)
          have F11 := hide ((unhide F10).below hbS)
          have I11 := hide ((unhide I10).below hbS)
          have M11 := hide ((unhide M10).below hbS)
          have V11 := hide ((unhide V10).below hbS)
          have B11 := hide (below_step (unhide B10) hbS (by omega))
          have Y11 := hide (below_step (unhide Y10) hbS (by omega))
          clear hbS D10 P10 R10 F10 I10 M10 V10 B10 Y10
          clear hN hkb
          go_wp2_with fail
          exact ⟨⟨k + 1, by omega, by go_num, Y11⟩, by simp [intOf]; omega⟩
      · skip
        have hlt' : ¬ (k : Int) < D.words.length := by omega
        have cp0 := (unhide P8).cell 0
        have cp1 := (unhide P8).cell 1
        have cp2 := (unhide P8).cell 2
        simp at cp0 cp1 cp2
        have lcp : b2 < w8.heap.size := by omega
        have cr0 := (unhide R8).cell 0
        have cr1 := (unhide R8).cell 1
        have cr2 := (unhide R8).cell 2
        have cr3 := (unhide R8).cell 3
        simp at cr0 cr1 cr2 cr3
        have lcr : b4 < w8.heap.size := by omega
        go_wp2_with fail
        clear cp0 cp1 cp2 lcp cr0 cr1 cr2 cr3 lcr
        refine (lwNums_same f1 a1 g1 c1 D.words _ (unhide I8) (unhide D8).r.r1 n1).mono ?_
        rintro e w9 ⟨rfl, hb⟩
        have z9 : w8.heap.size ≤ w9.heap.size := hb.size
        have D9 := hide ((unhide D8).below hb)
        have P9 := hide ((unhide P8).below hb)
        have R9 := hide ((unhide R8).below hb)
        have F9 := hide ((unhide F8).below hb)
        have I9 := hide ((unhide I8).below hb)
        have B9 := hide (below_step (unhide B8) hb (by omega))
        have Y9 := hide (below_step (unhide hbr) hb (by omega))
        clear hb D8 P8 R8 F8 I8 B8 hbr
        have cr0 := (unhide R9).cell 0
        have cr1 := (unhide R9).cell 1
        have cr2 := (unhide R9).cell 2
        have cr3 := (unhide R9).cell 3
        simp at cr0 cr1 cr2 cr3
        have lcr : b4 < w9.heap.size := by omega
        go_wp2_with fail
        clear cr0 cr1 cr2 cr3 lcr
        refine (implFault_good f1 f2 f3 g1 g2 g3 _ _ _ F _ (unhide F9) (unhide HWL).symm rfl rfl (unhide HGF)).mono ?_
        rintro e w10 ⟨rfl, hb⟩
        have z10 : w9.heap.size ≤ w10.heap.size := hb.size
        have D10 := hide ((unhide D9).below hb)
        have P10 := hide ((unhide P9).below hb)
        have R10 := hide ((unhide R9).below hb)
        have F10 := hide ((unhide F9).below hb)
        have I10 := hide ((unhide I9).below hb)
        have B10 := hide (below_step (unhide B9) hb (by omega))
        have Y10 := hide (below_step (unhide Y9) hb (by omega))
        clear hb D9 P9 R9 F9 I9 B9 Y9
        go_wp2_with fail
        go_ret
        exact ⟨rfl, unhide B10⟩
  · skip
    have e0 : (cd != 0) = true := by simpa using hc0
    clear hc0 hfd
    have cr0 := (unhide R7).cell 0
    simp at cr0
    have lcr : b4 < w207.heap.size := by omega
    go_wp2_with fail
    clear cr0 lcr
    go_ret
    exact ⟨rfl, unhide B7⟩
end fnStores
end Go.Proofs.Ytgckkehlnahfmaa
