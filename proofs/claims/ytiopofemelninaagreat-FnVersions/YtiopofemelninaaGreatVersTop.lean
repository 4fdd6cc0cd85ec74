/-
  Several texts in one: FnVersionsWalk, FnVersionsTop.
-/
import Derived.Test.YtiopofemelninaaGreatLiveAllC
import Derived.Test.YtiopofemelninaaGreatNextFree
import Derived.Test.YtiopofemelninaaGreatDrawAll
import Derived.Test.YtiopofemelninaaGreatDrawImg
import Derived.Laws.StructEq
import Derived.Deep.RegionHeld3
import Derived.Deep.CutRange
/-
  The walk of laws.FnVersions: it returns true, and writes nothing that was there.
-/
namespace Go.Proofs.YtiopofemelninaaGreat
open Go.RowKit
set_option linter.unusedVariables false

theorem keepV5 {W0 w' w1 : World} {b1 b2 : Nat} {v1 v2 v3 v4 v5 : Value} (h1 : b1 < W0.heap.size) (h2 : b2 < W0.heap.size) (hS : Below W0.heap.size W0 w' ∧ w'.cell? ⟨b1, 1, none⟩ = some v1 ∧ w'.cell? ⟨b1, 2, none⟩ = some v2 ∧ w'.cell? ⟨b1, 3, none⟩ = some v3 ∧ w'.cell? ⟨b1, 4, none⟩ = some v4 ∧ w'.cell? ⟨b2, 1, none⟩ = some v5) (hb : Below w'.heap.size w' w1) :
    Below W0.heap.size W0 w1 ∧ w1.cell? ⟨b1, 1, none⟩ = some v1 ∧ w1.cell? ⟨b1, 2, none⟩ = some v2 ∧ w1.cell? ⟨b1, 3, none⟩ = some v3 ∧ w1.cell? ⟨b1, 4, none⟩ = some v4 ∧ w1.cell? ⟨b2, 1, none⟩ = some v5 := by
  obtain ⟨h, d1, d2, d3, d4, d5⟩ := hS
  have hz := h.size
  exact ⟨h.trans (hb.mono hz), ((bcell hb).1 _ _ (by omega)).trans d1, ((bcell hb).1 _ _ (by omega)).trans d2, ((bcell hb).1 _ _ (by omega)).trans d3, ((bcell hb).1 _ _ (by omega)).trans d4, ((bcell hb).1 _ _ (by omega)).trans d5⟩
theorem img_count (ws : List Int) : imgCode ws = 0 → (imgVers ws).length + (imgFree ws).length = ws.length / 8 - 1 ∧ 8 ≤ ws.length := by
  intro h
  have hck : clockCode ws = 0 := by
    by_cases h0 : clockCode ws = 0
    · exact h0
    · rw [imgCode, if_neg h0] at h; exact absurd h h0
  have hr : (imgRun (clockVal ws) (ws.length / 8 - 1) 1 (ws.drop 8)).1 = 0 := by rw [imgCode, if_pos hck] at h; exact h
  obtain ⟨_, _, hs⟩ := clockVal_bounds hck
  refine ⟨?_, by simp [sizeOk] at hs; omega⟩
  rw [imgVers, imgFree, if_pos hck, if_pos hck]
  exact run_count _ _ _ _ hr
namespace fnVersions
theorem eqlInt (k u k' u' : Int) (w : World) : (Op.equalIn 10000 37 (.agg #[.int .i64 k, .int .i64 u]) (.agg #[.int .i64 k', .int .i64 u'])).run Tryz.prog w = .ok (k == k' && u == u') w := by
  have hS : Tryz.prog.underlying 37 = some (.struct (Tryz.prog.fieldsOf 37)) := by kernel_rfl
  have hp : Tryz.prog.stoodInHeld 37 = false := by kernel_rfl
  have u3 := Tryz.underlying2
  have a3 := Tryz.isAgg2
  have z3 := Tryz.sizeOf2
  rw [show (10000 : Nat) = 9999 + 1 from rfl, run_equalIn_agg w 9999 37 _ _ hS hp]
  simp only [Program.fieldsOf, Tryz.underlying37]
  go_simp
  by_cases h1 : k = k' <;> by_cases h2 : u = u' <;> simp [h1, h2]
theorem sleftV {W0 w' : World} {p : Prop} (h : Below W0.heap.size W0 w' ∧ p) : Below W0.heap.size W0 w' := h.1
theorem keepV3 {W0 w' w1 : World} {b1 b2 b3 : Nat} {v1 v2 v3 : Value} (h1 : b1 < W0.heap.size) (h2 : b2 < W0.heap.size) (h3 : b3 < W0.heap.size) (hS : Below W0.heap.size W0 w' ∧ w'.cell? ⟨b1, 0, none⟩ = some v1 ∧ w'.cell? ⟨b2, 0, none⟩ = some v2 ∧ w'.cell? ⟨b3, 0, none⟩ = some v3) (hb : Below w'.heap.size w' w1) :
    Below W0.heap.size W0 w1 ∧ w1.cell? ⟨b1, 0, none⟩ = some v1 ∧ w1.cell? ⟨b2, 0, none⟩ = some v2 ∧ w1.cell? ⟨b3, 0, none⟩ = some v3 := by
  obtain ⟨h, d1, d2, d3⟩ := hS
  have hz := h.size
  exact ⟨h.trans (hb.mono hz), ((bcell hb).1 _ _ (by omega)).trans d1, ((bcell hb).1 _ _ (by omega)).trans d2, ((bcell hb).1 _ _ (by omega)).trans d3⟩
theorem versAt_row {w : World} {a : Option Addr} {L : List VerA} (h : RowAt w a (vflat L)) : VersAt w a L := by
  rcases h with h | ⟨b, o, rfl, hb, hc⟩
  · refine .inl ?_
    have := congrArg List.length h
    rw [vflat_len] at this
    exact List.length_eq_zero_iff.1 (by simp only [List.length_nil] at this; omega)
  · exact .inr ⟨b, o, rfl, hb, fun i hi j v hv => by rw [Nat.add_assoc]; exact hc _ _ (vflat_at L i hi j v hv)⟩
theorem wrap64_nat (x : Int) (h0 : 0 ≤ x) (h1 : x < 9223372036854775808) : IntKind.i64.wrap x = x := by
  rw [IntKind.wrap_i64]; omega
theorem keepV2 {W0 w' : World} {b o1 o2 : Nat} {v1 v2 : Value} (hb : b < W0.heap.size) (c1 : W0.cell? ⟨b, o1, none⟩ = some v1) (c2 : W0.cell? ⟨b, o2, none⟩ = some v2) (h : Below W0.heap.size W0 w') : Below W0.heap.size W0 w' ∧ w'.cell? ⟨b, o1, none⟩ = some v1 ∧ w'.cell? ⟨b, o2, none⟩ = some v2 :=
  ⟨h, ((bcell h).1 _ _ hb).trans c1, ((bcell h).1 _ _ hb).trans c2⟩
theorem keepV4 {W0 w' w1 : World} {b : Nat} {v1 v2 : Value} (h1 : b < W0.heap.size) (hS : Below W0.heap.size W0 w' ∧ w'.cell? ⟨b, 2, none⟩ = some v1 ∧ w'.cell? ⟨b, 4, none⟩ = some v2) (hb : Below w'.heap.size w' w1) :
    Below W0.heap.size W0 w1 ∧ w1.cell? ⟨b, 2, none⟩ = some v1 ∧ w1.cell? ⟨b, 4, none⟩ = some v2 := by
  obtain ⟨h, d1, d2⟩ := hS
  have hz := h.size
  exact ⟨h.trans (hb.mono hz), ((bcell hb).1 _ _ (by omega)).trans d1, ((bcell hb).1 _ _ (by omega)).trans d2⟩
set_option maxRecDepth 20000 in
set_option maxHeartbeats 8000000 in
theorem yes (a : Option Addr) (n c : Nat) (w : World) (h : CodeAt w a n) (hn : n ≤ 1048576) :
    Calls Tryz.prog 3 #[.slice a n c] w fun r w' => r = .returned (.bool true) ∧ Below w.heap.size w w' := by
  have hn' : ¬ (1048576 : Int) < n := by omega
  have A0 := hide h
  clear h
  go_enter Tryz.func3, Tryz.ntmps3
  go_wp2_with (go_at_call 5; go_in)
  refine (drawLive_any a n c _ (unhide A0) hn).mono ?_
  rintro r w1 ⟨⟨g, cp, l, rfl, hcl, hcm, hI⟩, hb⟩
  have z1 : w.heap.size ≤ w1.heap.size := hb.size
  have B1 := hide hb
  have I1 := hide hI
  have hl : l.length ≤ 1048576 := by omega
  have hcm2 : cp ≤ 10000000 := by omega
  clear hb A0 hI
  go_wp2_with fail
  refine (implLiveOf_any (some ⟨g, 0, none⟩) cp l _ (unhide I1) hcl hcm2 hl).mono ?_
  rintro r w2 ⟨hLO, hb⟩
  obtain ⟨na, nc, da, dc, ra, rc, N, D, rfl, hLV, hF, hNL, hVF⟩ := live_more hLO
  have z2 : w1.heap.size ≤ w2.heap.size := hb.size
  have I2 := hide ((unhide I1).below hb)
  have B2 := hide (below_step (unhide B1) hb (by omega))
  have L2 := hide hLV
  have HF := hide hF
  have HNL := hide hNL
  have HVF := hide hVF
  clear hb B1 I1 hLO hLV hF hNL hVF
  go_upto_region 5 with fail
  obtain ⟨W3, hW, z3, hbx, hx⟩ := boxes1 w2 [.int .i64 (liveCd l), .int .i64 (liveCk l), .slice na N.length nc, .slice da D.length dc, .slice ra (liveZv l).length rc] 28
  rw [← hW]
  clear hW
  have I3 := hide ((unhide I2).below (unhide hbx))
  have B3 := hide (below_step (unhide B2) (unhide hbx) (by omega))
  have L3 := hide ((unhide L2).below (unhide hbx))
  have R3 := hx
  have u3 : w2.heap.size < W3.heap.size := by omega
  generalize w2.heap.size = bL at *
  clear hbx hx I2 B2 L2
  go_wp2_with fail
  refine (implVersionsIn_any (some ⟨g, 0, none⟩) cp l _ (unhide I3) hcl hcm2 hl).mono ?_
  rintro r w4 ⟨⟨vv, LV4, rfl, hV, hMV⟩, hb⟩
  obtain ⟨va, vc, ev⟩ := hV.form
  subst ev
  have hlV : LV4.length = (imgVers l).length := by rw [← hMV, List.length_map]
  have HlV := hide hlV
  have z4 : W3.heap.size ≤ w4.heap.size := hb.size
  have I4 := hide ((unhide I3).below hb)
  have B4 := hide (below_step (unhide B3) hb (by omega))
  have L4 := hide ((unhide L3).below hb)
  have R4 := hide ((unhide R3).below hb)
  clear hb I3 B3 L3 R3 hV hMV hlV
  go_upto_region 6 with fail
  obtain ⟨W5, hW, z5, hbx, hx⟩ := boxes1 w4 [.int .i64 (imgCode l), .slice va LV4.length vc] 31
  rw [← hW]
  clear hW
  have I5 := hide ((unhide I4).below (unhide hbx))
  have B5 := hide (below_step (unhide B4) (unhide hbx) (by omega))
  have L5 := hide ((unhide L4).below (unhide hbx))
  have R5 := hide ((unhide R4).below (unhide hbx))
  have V5 := hx
  have u5 : w4.heap.size < W5.heap.size := by omega
  have u45 : bL < w4.heap.size := by omega
  generalize w4.heap.size = bV at *
  clear hbx hx I4 B4 L4 R4
  go_wp2_with fail
  refine (implFreeIn_any (some ⟨g, 0, none⟩) cp l _ (unhide I5) hcl hcm2 hl).mono ?_
  rintro r w6 ⟨hIR, hb⟩
  obtain ⟨fa, fc, rfl, hO⟩ := hIR
  have z6 : W5.heap.size ≤ w6.heap.size := hb.size
  have I6 := hide ((unhide I5).below hb)
  have B6 := hide (below_step (unhide B5) hb (by omega))
  have L6 := hide ((unhide L5).below hb)
  have R6 := hide ((unhide R5).below hb)
  have V6 := hide ((unhide V5).below hb)
  clear hb I5 B5 L5 R5 V5 hO
  go_upto_region 7 with fail
  obtain ⟨W7, hW, z7, hbx, hx⟩ := boxes1 w6 [.int .i64 (imgCode l), .slice fa (imgFree l).length fc] 34
  rw [← hW]
  clear hW
  have I7 := hide ((unhide I6).below (unhide hbx))
  have B7 := hide (below_step (unhide B6) (unhide hbx) (by omega))
  have L7 := hide ((unhide L6).below (unhide hbx))
  have R7 := hide ((unhide R6).below (unhide hbx))
  have V7 := hide ((unhide V6).below (unhide hbx))
  have F7 := hx
  have u7 : w6.heap.size < W7.heap.size := by omega
  have u67 : bV < w6.heap.size := by omega
  generalize w6.heap.size = bF at *
  clear hbx hx I6 B6 L6 R6 V6
  have c1 := (unhide R7).cell 0
  have c2 := (unhide V7).cell 0
  have c3 := (unhide F7).cell 0
  simp only [List.getElem?_cons_zero] at c1 c2 c3
  have l1 : bL < W7.heap.size := by omega
  have l2 : bV < W7.heap.size := by omega
  have l3 : bF < W7.heap.size := by omega
  have hD : (fun w' => Below W7.heap.size W7 w' ∧ w'.cell? ⟨bL, 0, none⟩ = some (.int .i64 (liveCd l)) ∧ w'.cell? ⟨bV, 0, none⟩ = some (.int .i64 (imgCode l)) ∧ w'.cell? ⟨bF, 0, none⟩ = some (.int .i64 (imgCode l))) W7.drew := ⟨(Below.refl _ _).drew, c1, c2, c3⟩
  have HD := hide hD
  clear hD c1 c2 c3
  have n1 := int_neq_self (liveCd l)
  have n2 := int_neq_self (imgCode l)
  have f1 : ∀ (x : Int) (v1 v2 v3 v4 : Value) (w : World), (Instr.field 28 (.agg #[.int .i64 x, v1, v2, v3, v4]) 0).run Tryz.prog w = .ok (.int .i64 x) w := fun x v1 v2 v3 v4 w => by kernel_rfl
  have f2 : ∀ (x : Int) (v : Value) (w : World), (Instr.field 31 (.agg #[.int .i64 x, v]) 0).run Tryz.prog w = .ok (.int .i64 x) w := fun x v w => by kernel_rfl
  have q1 := eqlInt (clockCode l) (clockVal l) (clockCode l) (clockVal l)
  have q2 := eqlInt (nextCode l) (nextVal l) (nextCode l) (nextVal l)
  have hq1 : (clockCode l == clockCode l && clockVal l == clockVal l) = true := by simp
  have hq2 : (nextCode l == nextCode l && nextVal l == nextVal l) = true := by simp
  rw [hq1] at q1
  rw [hq2] at q2
  clear hq1 hq2
  go_region_held3 (fun w' => Below W7.heap.size W7 w' ∧ w'.cell? ⟨bL, 0, none⟩ = some (.int .i64 (liveCd l)) ∧ w'.cell? ⟨bV, 0, none⟩ = some (.int .i64 (imgCode l)) ∧ w'.cell? ⟨bF, 0, none⟩ = some (.int .i64 (imgCode l))) (first | exact unhide HD | assumption | exact keepV3 l1 l2 l3 (by assumption) (by assumption))
    (first
      | (go_at_call 10; refine (specLiveO_any (some ⟨g, 0, none⟩) cp l _ ((unhide I7).below (sleftV (by assumption))) hcl hcm2 hl).mono ?_; rintro r w5 ⟨hLO, hb5⟩; obtain ⟨ma, mc, ea, ec, sa, sc, M, E, rfl, -, -, -, -⟩ := live_more hLO; clear hLO)
      | (go_at_call 11; refine (specVersionsIn_any (some ⟨g, 0, none⟩) cp l _ ((unhide I7).below (sleftV (by assumption))) hcl hcm2 hl).mono ?_; rintro r w5 ⟨⟨vx, LX, rfl, -, -⟩, hb5⟩)
      | (go_at_call 12; refine (implClockOf_any (some ⟨g, 0, none⟩) cp l _ ((unhide I7).below (sleftV (by assumption))) hl).mono ?_; rintro r w5 ⟨rfl, hb5⟩)
      | (go_at_call 13; refine (specClockOf_any (some ⟨g, 0, none⟩) cp l _ ((unhide I7).below (sleftV (by assumption))) hl).mono ?_; rintro r w5 ⟨rfl, hb5⟩)
      | (go_at_call 14; refine (implNextUid_any (some ⟨g, 0, none⟩) cp l _ ((unhide I7).below (sleftV (by assumption))) hcl hcm2 hl).mono ?_; rintro r w5 ⟨rfl, hb5⟩)
      | (go_at_call 15; refine (specNextUid_any (some ⟨g, 0, none⟩) cp l _ ((unhide I7).below (sleftV (by assumption))) hcl hcm2 hl).mono ?_; rintro r w5 ⟨rfl, hb5⟩))
  rename_i hS
  have hbS := sleftV hS
  have I8 := hide ((unhide I7).below hbS)
  have L8 := hide ((unhide L7).below hbS)
  have R8 := hide ((unhide R7).below hbS)
  have V8 := hide ((unhide V7).below hbS)
  have F8 := hide ((unhide F7).below hbS)
  have B8 := hide (below_step (unhide B7) hbS (by omega))
  have z8 := hbS.size
  clear hS hbS HD n1 n2 q1 q2 I7 L7 R7 V7 F7 B7
  generalize hwn : w5 = w8 at *
  clear hwn
  have HCNT : Hid (imgCode l = 0 → (imgVers l).length + (imgFree l).length = l.length / 8 - 1 ∧ 8 ≤ l.length) := img_count l
  have htd : (l.length : Int).tdiv 8 = ((l.length / 8 : Nat) : Int) := by rw [Int.tdiv_eq_ediv_of_nonneg (by omega)]; rfl
  have v0 := (unhide V8).cell 0
  have v1 := (unhide V8).cell 1
  have e1 := (unhide F8).cell 1
  have c0 := (unhide R8).cell 0
  simp only [List.getElem?_cons_zero, List.getElem?_cons_succ] at v0 v1 e1 c0
  have lv : bV < w8.heap.size := by omega
  have lf : bF < w8.heap.size := by omega
  have lb : bL < w8.heap.size := by omega
  by_cases hic : imgCode l = 0
  case neg =>
    have hcd : ¬ liveCd l = 0 := by rw [liveCd, if_neg hic]; exact hic
    have hicb : (imgCode l == 0) = false := by simpa using hic
    have hcdb : (liveCd l != 0) = true := by simpa using hcd
    clear hic hcd
    go_wp2_with fail
    go_ret
    exact ⟨rfl, unhide B8⟩
  have hicb : (imgCode l == 0) = true := by simpa using hic
  obtain ⟨hcn, h8⟩ := unhide HCNT hic
  have hcn2 : (LV4.length : Int) + ((imgFree l).length : Int) = ((l.length / 8 : Nat) : Int) - 1 := by rw [unhide HlV]; omega
  have hcn3 : ((LV4.length : Int) + ((imgFree l).length : Int) != ((l.length / 8 : Nat) : Int) - 1) = false := by rw [hcn2]; simp
  go_upto_region 11 with fail
  by_cases hcd : liveCd l = 0
  case neg =>
    have hcdb : (liveCd l != 0) = true := by simpa using hcd
    clear hcd
    go_wp2_with fail
    go_ret
    exact ⟨rfl, unhide B8⟩
  have hcdb : (liveCd l != 0) = false := by simpa using hcd
  have HV2 := hide (unhide HVF hcd)
  have hcnt := (unhide HV2).cnt
  have hclk := (unhide HV2).clk
  clear hcd v0 v1 e1 HVF
  go_upto_region 13 with fail
  clear c0
  have c1 := (unhide R8).cell 1
  have c2 := (unhide R8).cell 2
  have c3 := (unhide R8).cell 3
  have c4 := (unhide R8).cell 4
  have v1 := (unhide V8).cell 1
  simp only [List.getElem?_cons_zero, List.getElem?_cons_succ] at c1 c2 c3 c4 v1
  rw [hclk] at c1
  have hD : (fun w' => Below w8.heap.size w8 w' ∧ w'.cell? ⟨bL, 1, none⟩ = some (.int .i64 (clockVal l)) ∧ w'.cell? ⟨bL, 2, none⟩ = some (.slice na N.length nc) ∧ w'.cell? ⟨bL, 3, none⟩ = some (.slice da D.length dc) ∧ w'.cell? ⟨bL, 4, none⟩ = some (.slice ra (liveZv l).length rc) ∧ w'.cell? ⟨bV, 1, none⟩ = some (.slice va LV4.length vc)) w8.drew := ⟨(Below.refl _ _).drew, c1, c2, c3, c4, v1⟩
  have HD := hide hD
  have n1 := int_neq_self (clockVal l)
  have w1' := (unhide HF).n
  have w2' := (unhide HF).d
  have w3' := (unhide HF).z
  have n2 : (IntKind.i64.wrap (IntKind.i64.wrap ((N.length : Int) + (D.length : Int)) + ((liveZv l).length : Int)) != (LV4.length : Int)) = false := by
    have e : (N.length : Int) + (D.length : Int) + ((liveZv l).length : Int) = (LV4.length : Int) := by rw [unhide HlV]; omega
    rw [wrap64_nat ((N.length : Int) + (D.length : Int)) (by omega) (by omega), wrap64_nat ((N.length : Int) + (D.length : Int) + ((liveZv l).length : Int)) (by omega) (by omega), e]; simp
  have f3 : ∀ (x y : Int) (w : World), (Instr.field 37 (.agg #[.int .i64 x, .int .i64 y]) 1).run Tryz.prog w = .ok (.int .i64 y) w := fun x y w => by kernel_rfl
  clear hD c1 c2 c3 c4 v1
  go_region_held3 (fun w' => Below w8.heap.size w8 w' ∧ w'.cell? ⟨bL, 1, none⟩ = some (.int .i64 (clockVal l)) ∧ w'.cell? ⟨bL, 2, none⟩ = some (.slice na N.length nc) ∧ w'.cell? ⟨bL, 3, none⟩ = some (.slice da D.length dc) ∧ w'.cell? ⟨bL, 4, none⟩ = some (.slice ra (liveZv l).length rc) ∧ w'.cell? ⟨bV, 1, none⟩ = some (.slice va LV4.length vc)) (first | exact unhide HD | assumption | exact keepV5 lb lv (by assumption) (by assumption))
    (first
      | (go_at_call 12; refine (implClockOf_any (some ⟨g, 0, none⟩) cp l _ ((unhide I8).below (sleftV (by assumption))) hl).mono ?_; rintro r w5 ⟨rfl, hb5⟩))
  rename_i hS
  have hbS := sleftV hS
  have I9 := hide ((unhide I8).below hbS)
  have L9 := hide ((unhide L8).below hbS)
  have R9 := hide ((unhide R8).below hbS)
  have B9 := hide (below_step (unhide B8) hbS (by omega))
  have z9 := hbS.size
  clear hS hbS HD n1 n2 I8 L8 R8 V8 F8 B8
  generalize hwn : w5 = w9 at *
  clear hwn
  go_upto_region 15 with fail
  obtain ⟨i0, hii, hz0, hz1, hz2⟩ := info_parts infoVer
  have c2 := (unhide R9).cell 2
  have c3 := (unhide R9).cell 3
  simp only [List.getElem?_cons_zero, List.getElem?_cons_succ] at c2 c3
  have lb9 : bL < w9.heap.size := by omega
  have KA : Hid (Below w9.heap.size w9 w9.drew) := (Below.refl _ _).drew
  have KB : Hid (Below w9.heap.size w9 (w9.drew.alloc (.cells #[] 46))) := ((Below.refl _ _).drew).alloc (Nat.le_refl _) _
  have O1 : Hid ((w9.drew.alloc (.cells #[] 46)).ownsRow w9.heap.size 46 11 (.slice (some ⟨w9.heap.size, 0, none⟩) 0 0) 0 []) := World.ownsRow_made (base := w9.heap.size) (e := 46) (size := 11) w9.drew #[] 0 (Nat.le_refl _) (by unfold maxLen; omega) rfl
  have RN : Hid (RowAt (w9.drew.alloc (.cells #[] 46)) na (vflat N)) := by
    obtain ⟨a, c, e, hr, -⟩ := rowAt_own (unhide L9).n.row
    cases e
    exact hr.below (unhide KB)
  have RD : Hid (RowAt w9 da (vflat D)) := by
    obtain ⟨a, c, e, hr, -⟩ := rowAt_own (unhide L9).d.row
    cases e
    exact hr
  have C2 := hide c2
  have C3 := hide c3
  clear c2 c3
  go_region_held3 (fun w' => Below w9.heap.size w9 w' ∧ w'.cell? ⟨bL, 2, none⟩ = some (.slice na N.length nc) ∧ w'.cell? ⟨bL, 3, none⟩ = some (.slice da D.length dc)) (first | exact keepV2 lb9 (unhide C2) (unhide C3) (unhide KA) | exact keepV2 lb9 (unhide C2) (unhide C3) (unhide KB) | exact keepV2 lb9 (unhide C2) (unhide C3) (unhide K10) | exact keepV2 lb9 (unhide C2) (unhide C3) (unhide K11))
    (first
      | (refine step_append_xs _ rfl _ _ 26 rfl w9.heap.size 46 i0 _ 11 112 Tryz.underlying26 hii hz0 hz1 hz2 rfl (by decide) (by decide) (.slice (some ⟨w9.heap.size, 0, none⟩) 0 0) 0 [] rfl (unhide O1) na N.length nc (vflat N) rfl (vflat_len N) (unhide RN) (vflat_one N) (by omega) (by simp) ?_; intro v' w10 hown hgrow hloc; rw [Nat.zero_add, List.nil_append] at hown; obtain ⟨a6, c6, e6, -⟩ := rowAt_own hown; subst e6; have O10 := hide hown; have K10 := hide ((unhide KB).grown hgrow (by simp) (fun q hq => ((unhide O1).lt q hq).1)); have RD10 := hide ((unhide RD).below (unhide K10)); have z10 := (unhide K10).size; clear hown hgrow hloc)
      | (refine step_append_xs _ rfl _ _ 26 rfl w9.heap.size 46 i0 _ 11 112 Tryz.underlying26 hii hz0 hz1 hz2 rfl (by decide) (by decide) (.slice a6 N.length c6) N.length (vflat N) rfl (unhide O10) da D.length dc (vflat D) rfl (vflat_len D) (unhide RD10) (vflat_one D) (by omega) z10 ?_; intro v' w11 hown hgrow hloc; obtain ⟨a7, c7, e7, -⟩ := rowAt_own hown; subst e7; have O11 := hide hown; have K11 := hide ((unhide K10).grown hgrow z10 (fun q hq => ((unhide O10).lt q hq).1)); clear hown hgrow hloc))
  have I11 := hide ((unhide I9).below (unhide K11))
  have R11 := hide ((unhide R9).below (unhide K11))
  have B11 := hide (below_step (unhide B9) (unhide K11) (by omega))
  have z11 : w9.heap.size ≤ w11.heap.size := (unhide K11).size
  obtain ⟨M, hM⟩ : ∃ M, M = N ++ D := ⟨_, rfl⟩
  have hml : N.length + D.length = M.length := by rw [hM, List.length_append]
  have VA : Hid (VersAt w11 a7 M) := by
    obtain ⟨a, c, e, hr, -⟩ := rowAt_own (unhide O11)
    cases e
    rw [← vflat_append, ← hM] at hr
    exact versAt_row hr
  have EA : Hid (∀ x ∈ M, x.x.b.e ≤ clockVal l - 2 ∧ 1 ≤ x.line ∧ x.line < (l.length : Int) / 8 ∧ l.getD (x.line.toNat * 8) 0 ≠ 0) := by rw [hM]; exact (unhide HV2).each
  have hcv : 2 ≤ clockVal l ∧ clockVal l ≤ 9999 := by
    have hck : clockCode l = 0 := by
      by_cases h0 : clockCode l = 0
      · exact h0
      · have := (unhide HV2).code
        rw [imgCode, if_neg h0] at this
        exact this
    have := clockVal_bounds hck
    exact ⟨this.1, this.2.1⟩
  obtain ⟨hcv1, hcv2⟩ := hcv
  have hm82 : M.length ≤ 82 := by omega
  rw [hml]
  clear hM hml O1 O10 O11 K10 K11 KA KB RN RD RD10 C2 C3 I9 R9 B9 L9
  go_wp2_with fail
  go_loopw [8] (fun i wr => ∃ k : Nat, k ≤ M.length ∧ i = .int .i64 k ∧ Hid (Below w11.heap.size w11 wr)) (fun i _ => M.length - (intOf i).toNat)
  case atStart => exact ⟨0, Nat.zero_le _, rfl, Below.refl _ _⟩
  case round =>
    obtain ⟨k, hk, rfl, HB⟩ := hrel
    have zr := (unhide HB).size
    by_cases hkl : k < M.length
    · obtain ⟨ga, oa, eg, hgl, hcell⟩ := ((unhide VA).below (unhide HB)).at hkl
      subst eg
      have u0 : wr.cell? ⟨ga, oa + k * 11, none⟩ = some (.int .i64 M[k].line) := hcell k hkl 0 _ rfl
      have u4 : wr.cell? ⟨ga, oa + k * 11 + 4, none⟩ = some (.int .i64 M[k].x.b.e) := hcell k hkl 4 _ rfl
      have y1 : wr.cell? ⟨bL, 1, none⟩ = some (.int .i64 (clockVal l)) := by
        have := ((unhide R11).below (unhide HB)).cell 1
        simp only [List.getElem?_cons_zero, List.getElem?_cons_succ] at this
        rw [hclk] at this
        exact this
      obtain ⟨he, hl1, hl2, hne⟩ := unhide EA M[k] (List.getElem_mem hkl)
      obtain ⟨m, hm⟩ : ∃ m : Nat, M[k].line = m := ⟨M[k].line.toNat, by omega⟩
      rw [hm] at u0 hl1 hl2 hne
      clear hm hcell
      generalize M[k].x.b.e = e at *
      have hm1 : 1 ≤ m := by omega
      have hm2 : m < l.length / 8 := by omega
      have hm3 : m * 8 < l.length := by omega
      have q0 : wr.cell? ⟨g, m * 8, none⟩ = some (.int .i64 (l[m * 8])) := by
        obtain ⟨b', o', e', -, hc⟩ := ((unhide I11).below (unhide HB)).at hm3
        cases e'
        have := hc (m * 8) hm3
        rwa [Nat.zero_add] at this
      have hy : l[m * 8] ≠ 0 := by
        intro h0
        refine hne ?_
        rw [Int.toNat_natCast, List.getD_eq_getElem?_getD, List.getElem?_eq_getElem hm3, h0]; rfl
      generalize l[m * 8] = y at *
      have hk0 : (0 : Int) ≤ (k : Int) := by omega
      have hk1 : (k : Int) < (M.length : Int) := by omega
      have hx0 : (0 : Int) ≤ (m : Int) * 8 := by omega
      have hx1 : (m : Int) * 8 < (l.length : Int) := by omega
      have hg1 : decide (clockVal l - 2 < e) = false := decide_eq_false (by omega)
      have hg2 : decide ((m : Int) < 1) = false := decide_eq_false (by omega)
      have hg3 : decide (((l.length / 8 : Nat) : Int) ≤ (m : Int)) = false := decide_eq_false (by omega)
      have hg4 : (y == 0) = false := by simpa using hy
      have hwm : IntKind.i64.wrap ((m : Int) * 8) = (m : Int) * 8 := by rw [IntKind.wrap_i64]; omega
      have hwc : IntKind.i64.wrap (clockVal l - 2) = clockVal l - 2 := by rw [IntKind.wrap_i64]; omega
      have htn : ((m : Int) * 8).toNat = m * 8 := by omega
      have hg5 : decide (IntKind.i64.wrap ((l.length : Int) / 8) ≤ (m : Int)) = false := decide_eq_false (by rw [wrap64_nat _ (by omega) (by omega)]; omega)
      have hg6 : decide (IntKind.i64.wrap (clockVal l - 2) < e) = false := by rw [hwc]; exact hg1
      clear he hl1 hl2 hne hy
      go_wp2_with fail
      go_quiet (fail)
      go_wp2_with fail
      exact ⟨⟨k + 1, by omega, by go_num, below_drewN (unhide HB) _⟩, by simp [intOf]; omega⟩
    · have hke : ¬ (k : Int) < (M.length : Int) := by omega
      go_upto_region 21 with fail
      have c2 := ((unhide R11).below (unhide HB)).cell 2
      have c4 := ((unhide R11).below (unhide HB)).cell 4
      simp only [List.getElem?_cons_zero, List.getElem?_cons_succ] at c2 c4
      have lbr : bL < wr.heap.size := by omega
      have IR := hide ((unhide I11).below (unhide HB))
      have BR := hide (below_step (unhide B11) (unhide HB) (by omega))
      have hD : (fun w' => Below wr.heap.size wr w' ∧ w'.cell? ⟨bL, 2, none⟩ = some (.slice na N.length nc) ∧ w'.cell? ⟨bL, 4, none⟩ = some (.slice ra (liveZv l).length rc)) wr.drew := ⟨(Below.refl _ _).drew, c2, c4⟩
      have HD := hide hD
      have n1 : (((liveNv l).length : Int) == ((liveNv l).length : Int)) = true := by simp
      have n2 : (((liveZv l).length : Int) == ((liveZv l).length : Int)) = true := by simp
      have f4 : ∀ (x : Int) (v1 v2 v3 v4 : Value) (w : World), (Instr.field 28 (.agg #[.int .i64 x, v1, v2, v3, v4]) 2).run Tryz.prog w = .ok v2 w := fun x v1 v2 v3 v4 w => by kernel_rfl
      have f5 : ∀ (x : Int) (v1 v2 v3 v4 : Value) (w : World), (Instr.field 28 (.agg #[.int .i64 x, v1, v2, v3, v4]) 4).run Tryz.prog w = .ok v4 w := fun x v1 v2 v3 v4 w => by kernel_rfl
      clear hD c2 c4
      rw [unhide HNL] at HD ⊢
      go_region_held3 (fun w' => Below wr.heap.size wr w' ∧ w'.cell? ⟨bL, 2, none⟩ = some (.slice na (liveNv l).length nc) ∧ w'.cell? ⟨bL, 4, none⟩ = some (.slice ra (liveZv l).length rc)) (first | exact unhide HD | assumption | exact keepV4 lbr (by assumption) (by assumption))
        (first
          | (go_at_call 10; refine (specLiveO_any (some ⟨g, 0, none⟩) cp l _ ((unhide IR).below (sleftV (by assumption))) hcl hcm2 hl).mono ?_; rintro r w5 ⟨hLO, hb5⟩; obtain ⟨ma, mc, ea, ec, sa, sc, M', E', rfl, -, -, hnl, -⟩ := live_more hLO; rw [hnl]; clear hLO hnl))
      rename_i hS
      have hbS := sleftV hS
      have BF := hide (below_step (unhide BR) hbS (by omega))
      clear hS hbS HD
      go_wp2_with fail
      go_ret
      exact ⟨rfl, unhide BF⟩
set_option maxRecDepth 20000 in
theorem no (a : Option Addr) (n c : Nat) (w : World) (hn : ¬ (n : Int) ≤ 1048576) :
    Calls Tryz.prog 3 #[.slice a n c] w fun r w' => r = .returned (.bool true) ∧ Below w.heap.size w w' := by
  go_enter Tryz.func3, Tryz.ntmps3
  go_wp2_with (go_at_call 5; go_in)
  go_ret
  exact ⟨rfl, Below.refl _ _⟩
end fnVersions
end Go.Proofs.YtiopofemelninaaGreat
/-
  laws.FnVersions, at every code.
-/
namespace Go.Proofs.YtiopofemelninaaGreat.fnVersions
open Go.RowKit
/-- What the walk is told of a slice of integers that came in. -/
def IsRow (k : IntKind) (w : World) (a : Option Addr) (len cap : Nat) (zs : List Int) : Prop :=
  (a = none ∧ len = 0 ∧ cap = 0 ∧ zs = []) ∨
  ∃ x, a = some x ∧ len ≤ cap ∧ cap ≤ maxLen ∧ zs.length = cap ∧ (∀ i, i < zs.length → w.cell? (x.add i) = some (.int k (zs.getD i 0))) ∧ ∀ n ∈ zs, (Lit.int k n).wf = true

theorem walk (a : Option Addr) (len cap : Nat) (zs : List Int) (w : World) (w0 : IsRow .u8 w a len cap zs) :
    Calls Tryz.prog 3 #[.slice a len cap] w fun r w' => r = .returned (.bool true) ∧ Below w.heap.size w w' := by
  by_cases hn : len ≤ 1048576
  · exact yes a len cap w (codeAt_row w0) hn
  · exact no a len cap w (by omega)
end Go.Proofs.YtiopofemelninaaGreat.fnVersions
