/-
  The walk of laws.FnExactReplyText: it returns true, and writes nothing that was there.
-/
import Derived.Test.YtiopofemelninaaDoorRepTextI
import Derived.Test.YtiopofemelninaaDoorRepTo
import Derived.Test.YtiopofemelninaaDoorNoteEq
import Derived.Test.YtiopofemelninaaDoorNoteSz
import Derived.Test.YtiopofemelninaaDoorEqWalk
import Derived.Deep.RegionHeld3
namespace Go.Proofs.YtiopofemelninaaDoor.fnExactReplyText
open Go.RowKit
set_option linter.unusedVariables false

theorem left {W0 w' : World} {p : Prop} (h : Below W0.heap.size W0 w' ∧ p) : Below W0.heap.size W0 w' := h.1
theorem keepR {W0 w' w1 : World} {b0 b1 : Nat} {v0 v1 v2 u0 u1 u2 : Value} (h0 : b0 < W0.heap.size) (h1 : b1 < W0.heap.size)
    (hS : Below W0.heap.size W0 w' ∧ w'.cell? ⟨b0, 0, none⟩ = some v0 ∧ w'.cell? ⟨b0, 1, none⟩ = some v1 ∧ w'.cell? ⟨b0, 2, none⟩ = some v2 ∧ w'.cell? ⟨b1, 0, none⟩ = some u0 ∧ w'.cell? ⟨b1, 1, none⟩ = some u1 ∧ w'.cell? ⟨b1, 2, none⟩ = some u2) (hb : Below w'.heap.size w' w1) :
    Below W0.heap.size W0 w1 ∧ w1.cell? ⟨b0, 0, none⟩ = some v0 ∧ w1.cell? ⟨b0, 1, none⟩ = some v1 ∧ w1.cell? ⟨b0, 2, none⟩ = some v2 ∧ w1.cell? ⟨b1, 0, none⟩ = some u0 ∧ w1.cell? ⟨b1, 1, none⟩ = some u1 ∧ w1.cell? ⟨b1, 2, none⟩ = some u2 := by
  obtain ⟨h, d0, d1, d2, e0, e1, e2⟩ := hS
  have hz := h.size
  exact ⟨h.trans (hb.mono hz), ((bcell hb).1 _ _ (by omega)).trans d0, ((bcell hb).1 _ _ (by omega)).trans d1, ((bcell hb).1 _ _ (by omega)).trans d2, ((bcell hb).1 _ _ (by omega)).trans e0, ((bcell hb).1 _ _ (by omega)).trans e1, ((bcell hb).1 _ _ (by omega)).trans e2⟩
theorem box_ints {w : World} {g : Nat} {l : List Int} {t : TypeId} (h : Box w g (nums l) t) : IntsAt w (some ⟨g, 0, none⟩) l :=
  .inr ⟨g, 0, rfl, h.lt, fun i hi => by rw [Nat.zero_add, h.cell, nums_at hi]⟩
theorem rep_form (rc : Int) (rn : List Int) (rs : List ByteArray) : ∃ x b, repVal rc rn rs = .agg #[.int .i64 x, .string b] := by
  unfold repVal
  split
  · exact ⟨_, _, rfl⟩
  · exact ⟨_, _, rfl⟩

set_option maxRecDepth 20000 in
set_option maxHeartbeats 4000000 in
theorem walk (rc : Int) (rn : List Int) (rs : List ByteArray) (a2 : Option Addr) (c2 : Nat) (a3 : Option Addr) (c3 : Nat) (w : World) (h2 : IntsAt w a2 rn) (hn : rn.length ≤ maxLen) (h3 : StrsAt w a3 rs) (hm : rs.length ≤ maxLen) (hs : ∀ s ∈ rs, s.size ≤ maxLen) (htab : Lib.TabIs Tryd.prog w "internal/strconv.uint64pow10" .u64 Lib.pow10Tab) :
    Calls Tryd.prog 5 #[.agg #[.int .i64 rc, .slice a2 rn.length c2, .slice a3 rs.length c3]] w fun r w' => r = .returned (.bool true) ∧ Below w.heap.size w w' := by
  obtain ⟨W1, hW, hWz, hbx, hx⟩ := boxes1 w [.int .i64 rc, .slice a2 rn.length c2, .slice a3 rs.length c3] 35
  obtain ⟨xv, bv, hv⟩ := rep_form rc rn rs
  have HV := hide hv
  have HS := hide hs
  clear hv hs
  go_enter Tryd.func5, Tryd.ntmps5
  go_upto_region 2 with fail
  rw [← hW]
  clear hW
  have I1 := hide (h2.below (unhide hbx))
  have S1 := hide (h3.below (unhide hbx))
  have T1 := hide (tab_below htab (unhide hbx))
  have P1 := hx
  have B1 := hbx
  clear hx hbx h2 h3 htab
  have ca0 := (unhide P1).cell 0
  have ca1 := (unhide P1).cell 1
  have ca2 := (unhide P1).cell 2
  simp only [List.getElem?_cons_zero, List.getElem?_cons_succ] at ca0 ca1 ca2
  have lca : w.heap.size < W1.heap.size := by omega
  go_wp2_with fail
  clear ca0 ca1 ca2 lca
  refine (szReply_any rc a2 rn.length c2 a3 rs c3 1048576 _ (by omega) (by omega) hn (unhide S1) (unhide HS) hm).mono ?_
  rintro e w2 ⟨⟨r, rfl, hr⟩, hb⟩
  have z2 : W1.heap.size ≤ w2.heap.size := hb.size
  have I2 := hide ((unhide I1).below hb)
  have S2 := hide ((unhide S1).below hb)
  have T2 := hide (tab_below (unhide T1) hb)
  have P2 := hide ((unhide P1).below hb)
  have B2 := hide (below_step (unhide B1) hb (by omega))
  clear hb I1 S1 T1 P1 B1
  by_cases hv : r < 0
  · clear hr
    go_wp2_with fail
    go_ret
    exact ⟨rfl, unhide B2⟩
  obtain ⟨hn', hm'⟩ : rn.length ≤ 1048576 ∧ rs.length ≤ 1048576 := by rcases hr with h | h <;> omega
  clear hr hn hm
  have ca0 := (unhide P2).cell 0
  have ca1 := (unhide P2).cell 1
  have ca2 := (unhide P2).cell 2
  simp only [List.getElem?_cons_zero, List.getElem?_cons_succ] at ca0 ca1 ca2
  have lca : w.heap.size < w2.heap.size := by omega
  go_wp2_with fail
  clear ca0 ca1 ca2 lca
  refine (toReply_any rc rn rs a2 c2 a3 c3 _ (unhide I2) (unhide S2) hn' hm').mono ?_
  rintro e w3 ⟨⟨g2, g3, rfl, hg2, hg3, hx2, hx3⟩, hb⟩
  have z3 : w2.heap.size ≤ w3.heap.size := hb.size
  have I3 := hide ((unhide I2).below hb)
  have S3 := hide ((unhide S2).below hb)
  have T3 := hide (tab_below (unhide T2) hb)
  have P3 := hide ((unhide P2).below hb)
  have B3 := hide (below_step (unhide B2) hb (by omega))
  have J3 := hide (box_ints hx2)
  have K3 := hide (strs_box hx3)
  clear hb I2 S2 T2 P2 B2 hx2 hx3 hg2 hg3
  go_wp2_with fail
  refine (specReplyText_any rc rn rs _ _ _ _ _ (unhide J3) (unhide K3) (unhide HS)).mono ?_
  rintro e w4 ⟨rfl, hb⟩
  rw [unhide HV]
  have z4 : w3.heap.size ≤ w4.heap.size := hb.size
  have I4 := hide ((unhide I3).below hb)
  have S4 := hide ((unhide S3).below hb)
  have T4 := hide (tab_below (unhide T3) hb)
  have P4 := hide ((unhide P3).below hb)
  have B4 := hide (below_step (unhide B3) hb (by omega))
  clear hb I3 S3 T3 P3 B3 J3 K3
  go_upto_region 6 with fail
  obtain ⟨W5, hW, z5, hbx, hx⟩ := boxes1 w4 [.int .i64 xv, .string bv] 38
  rw [← hW]
  clear hW
  have I5 := hide ((unhide I4).below (unhide hbx))
  have S5 := hide ((unhide S4).below (unhide hbx))
  have T5 := hide (tab_below (unhide T4) (unhide hbx))
  have P5 := hide ((unhide P4).below (unhide hbx))
  have B5 := hide (below_step (unhide B4) (unhide hbx) (by omega))
  have Y5 := hx
  have u5 : w4.heap.size < W5.heap.size := by omega
  have u54 : w.heap.size < w4.heap.size := by omega
  generalize w4.heap.size = bY at *
  clear hbx hx I4 S4 T4 P4 B4
  have ca0 := (unhide P5).cell 0
  have ca1 := (unhide P5).cell 1
  have ca2 := (unhide P5).cell 2
  simp only [List.getElem?_cons_zero, List.getElem?_cons_succ] at ca0 ca1 ca2
  have lca : w.heap.size < W5.heap.size := by omega
  go_wp2_with fail
  clear ca0 ca1 ca2 lca
  refine (toReply_any rc rn rs a2 c2 a3 c3 _ (unhide I5) (unhide S5) hn' hm').mono ?_
  rintro e w6 ⟨⟨h2, h3, rfl, hg2, hg3, hx2, hx3⟩, hb⟩
  have z6 : W5.heap.size ≤ w6.heap.size := hb.size
  have I6 := hide ((unhide I5).below hb)
  have S6 := hide ((unhide S5).below hb)
  have T6 := hide (tab_below (unhide T5) hb)
  have P6 := hide ((unhide P5).below hb)
  have Y6 := hide ((unhide Y5).below hb)
  have B6 := hide (below_step (unhide B5) hb (by omega))
  have J6 := hide (box_ints hx2)
  have K6 := hide (strs_box hx3)
  clear hb I5 S5 T5 P5 B5 Y5 hx2 hx3 hg2 hg3
  go_upto_region 7 with fail
  obtain ⟨W7, hW, z7, hbx, hx⟩ := boxes1 w6 [.int .i64 rc, .slice (some ⟨h2, 0, none⟩) rn.length rn.length, .slice (some ⟨h3, 0, none⟩) rs.length rs.length] 40
  rw [← hW]
  clear hW
  have I7 := hide ((unhide I6).below (unhide hbx))
  have S7 := hide ((unhide S6).below (unhide hbx))
  have T7 := hide (tab_below (unhide T6) (unhide hbx))
  have P7 := hide ((unhide P6).below (unhide hbx))
  have Y7 := hide ((unhide Y6).below (unhide hbx))
  have J7 := hide ((unhide J6).below (unhide hbx))
  have K7 := hide ((unhide K6).below (unhide hbx))
  have B7 := hide (below_step (unhide B6) (unhide hbx) (by omega))
  have X7 := hx
  have u7 : w6.heap.size < W7.heap.size := by omega
  have u76 : bY < w6.heap.size := by omega
  generalize w6.heap.size = bX at *
  clear hbx hx I6 S6 T6 P6 Y6 B6 J6 K6
  have ca0 := (unhide X7).cell 0
  have ca1 := (unhide X7).cell 1
  have ca2 := (unhide X7).cell 2
  simp only [List.getElem?_cons_zero, List.getElem?_cons_succ] at ca0 ca1 ca2
  go_wp2_with fail
  clear ca0 ca1 ca2
  refine (implReplyText_any rc rn rs _ _ _ _ _ (unhide J7) (unhide K7) (unhide HS) hn' hm' (unhide T7)).mono ?_
  rintro e w8 ⟨rfl, hb⟩
  rw [unhide HV]
  have z8 : W7.heap.size ≤ w8.heap.size := hb.size
  have I8 := hide ((unhide I7).below hb)
  have S8 := hide ((unhide S7).below hb)
  have P8 := hide ((unhide P7).below hb)
  have Y8 := hide ((unhide Y7).below hb)
  have X8 := hide ((unhide X7).below hb)
  have J8 := hide ((unhide J7).below hb)
  have K8 := hide ((unhide K7).below hb)
  have B8 := hide (below_step (unhide B7) hb (by omega))
  clear hb I7 S7 T7 P7 Y7 X7 J7 K7 B7
  go_upto_region 8 with fail
  obtain ⟨W9, hW, z9, hbx, hx⟩ := boxes1 w8 [.int .i64 xv, .string bv] 38
  rw [← hW]
  clear hW
  have I9 := hide ((unhide I8).below (unhide hbx))
  have S9 := hide ((unhide S8).below (unhide hbx))
  have P9 := hide ((unhide P8).below (unhide hbx))
  have Y9 := hide ((unhide Y8).below (unhide hbx))
  have X9 := hide ((unhide X8).below (unhide hbx))
  have J9 := hide ((unhide J8).below (unhide hbx))
  have K9 := hide ((unhide K8).below (unhide hbx))
  have B9 := hide (below_step (unhide B8) (unhide hbx) (by omega))
  have u9 : w8.heap.size < W9.heap.size := by omega
  have g0 := (unhide hx).cell 0
  have g1 := (unhide hx).cell 1
  have y0 := (unhide Y9).cell 0
  have y1 := (unhide Y9).cell 1
  simp only [List.getElem?_cons_zero, List.getElem?_cons_succ] at g0 g1 y0 y1
  generalize w8.heap.size = bG at *
  clear hbx hx I8 S8 P8 Y8 X8 J8 K8 B8
  go_wp2_with fail
  clear g0 g1 y0 y1
  refine (eqTextResult_same xv bv _).mono ?_
  rintro e w10 ⟨rfl, hb⟩
  have z10 : W9.heap.size ≤ w10.heap.size := hb.size
  have I10 := hide ((unhide I9).below hb)
  have S10 := hide ((unhide S9).below hb)
  have P10 := hide ((unhide P9).below hb)
  have X10 := hide ((unhide X9).below hb)
  have J10 := hide ((unhide J9).below hb)
  have K10 := hide ((unhide K9).below hb)
  have B10 := hide (below_step (unhide B9) hb (by omega))
  clear hb I9 S9 P9 Y9 X9 J9 K9 B9
  go_upto_region 10 with fail
  have c0 := (unhide P10).cell 0
  have c1 := (unhide P10).cell 1
  have c2' := (unhide P10).cell 2
  have d0 := (unhide X10).cell 0
  have d1 := (unhide X10).cell 1
  have d2 := (unhide X10).cell 2
  simp only [List.getElem?_cons_zero, List.getElem?_cons_succ] at c0 c1 c2' d0 d1 d2
  have l0 : w.heap.size < w10.heap.size := by omega
  have l1 : bX < w10.heap.size := by omega
  have HD := hide (show Below w10.heap.size w10 w10.drew ∧ w10.drew.cell? ⟨w.heap.size, 0, none⟩ = some (.int .i64 rc) ∧ w10.drew.cell? ⟨w.heap.size, 1, none⟩ = some (.slice a2 rn.length c2) ∧ w10.drew.cell? ⟨w.heap.size, 2, none⟩ = some (.slice a3 rs.length c3) ∧ w10.drew.cell? ⟨bX, 0, none⟩ = some (.int .i64 rc) ∧ w10.drew.cell? ⟨bX, 1, none⟩ = some (.slice (some ⟨h2, 0, none⟩) rn.length rn.length) ∧ w10.drew.cell? ⟨bX, 2, none⟩ = some (.slice (some ⟨h3, 0, none⟩) rs.length rs.length) from ⟨(Below.refl _ _).drew, c0, c1, c2', d0, d1, d2⟩)
  clear c0 c1 c2' d0 d1 d2
  go_region_held3 (fun w' => Below w10.heap.size w10 w' ∧ w'.cell? ⟨w.heap.size, 0, none⟩ = some (.int .i64 rc) ∧ w'.cell? ⟨w.heap.size, 1, none⟩ = some (.slice a2 rn.length c2) ∧ w'.cell? ⟨w.heap.size, 2, none⟩ = some (.slice a3 rs.length c3) ∧ w'.cell? ⟨bX, 0, none⟩ = some (.int .i64 rc) ∧ w'.cell? ⟨bX, 1, none⟩ = some (.slice (some ⟨h2, 0, none⟩) rn.length rn.length) ∧ w'.cell? ⟨bX, 2, none⟩ = some (.slice (some ⟨h3, 0, none⟩) rs.length rs.length)) (first | exact unhide HD | assumption | exact keepR l0 l1 (by assumption) (by assumption))
    (first
      | (go_at_call 16; refine (toReply_any rc rn rs a2 c2 a3 c3 _ ((unhide I10).below (left (by assumption))) ((unhide S10).below (left (by assumption))) hn' hm').mono ?_; rintro r w5 ⟨⟨k2, k3, rfl, hg2, hg3, hx2, hx3⟩, hb5⟩; have JN := hide (box_ints hx2); have KN := hide (strs_box hx3); clear hg2 hg3 hx2 hx3)
      | (go_at_call 19; refine (eqReply_same rc rn rs _ _ _ _ _ _ _ _ _ ((unhide J10).below (left (by assumption))) (unhide JN) ((unhide K10).below (left (by assumption))) (unhide KN) hn' hm').mono ?_; rintro r w7 ⟨rfl, hb7⟩))
  rename_i hS
  have BF := hide (below_step (unhide B10) (left hS) (by omega))
  clear hS HD
  go_wp2_with fail
  go_ret
  exact ⟨rfl, unhide BF⟩
end Go.Proofs.YtiopofemelninaaDoor.fnExactReplyText
