/-
  The walk of laws.FnExactDeviceFault: it returns true, and writes nothing that was there.
-/
import Derived.Test.YtpngbpohopkkaaaSpecFault
import Derived.Test.YtpngbpohopkkaaaImplFault
import Derived.Test.YtpngbpohopkkaaaLawsKit
namespace Go.Proofs.Ytpngbpohopkkaaa.fnExactDeviceFault
open Go.RowKit

set_option maxHeartbeats 2000000 in
theorem walk (a1 a2 a3 : Option Addr) (c1 c2 c3 : Nat) (D : Dev) (w : World) (h : DevAt w a1 a2 a3 D) (l1 : D.words.length ≤ maxLen) (l2 : D.flights.length ≤ maxLen) (l3 : D.over.length ≤ maxLen) :
    Calls Try.prog 3 #[.agg #[.slice a1 D.words.length c1, .slice a2 D.flights.length c2, .slice a3 D.over.length c3]] w fun e w' => e = .returned (.bool true) ∧ Below w.heap.size w w' := by
  have A0 := hide h
  clear h
  go_enter Try.func3, Try.ntmps3
  go_wp2_with fail
  obtain ⟨W1, hW, z1, hbx, hx⟩ := boxes1 w [.slice a1 D.words.length c1, .slice a2 D.flights.length c2, .slice a3 D.over.length c3] 25
  rw [← hW]
  clear hW
  have A1 := hide ((unhide A0).below (unhide hbx))
  have B1 := hbx
  have P1 := hx
  clear hbx hx A0
  refine (szDevice_any a1 a2 a3 _ c1 _ c2 _ c3 1048576 _ (by omega) (by omega) l1 l2 l3).mono ?_
  rintro e w2 ⟨⟨r, rfl, hr⟩, hb⟩
  have z2 : W1.heap.size ≤ w2.heap.size := hb.size
  have A2 := hide ((unhide A1).below hb)
  have P2 := hide ((unhide P1).below hb)
  have B2 := hide (below_step (unhide B1) hb (by omega))
  clear hb A1 P1 B1
  by_cases hv : r < 0
  · clear hr
    go_wp2_with fail
    go_ret
    exact ⟨rfl, unhide B2⟩
  have hl : ((D.words.length : Int) + D.flights.length + D.over.length) ≤ 1048576 := by rcases hr with h | h <;> omega
  clear hr
  have k1 : D.words.length ≤ 1048576 := by omega
  have k2 : D.flights.length ≤ 1048576 := by omega
  have k3 : D.over.length ≤ 1048576 := by omega
  clear l1 l2 l3 hl
  have ca0 := (unhide P2).cell 0
  have ca1 := (unhide P2).cell 1
  have ca2 := (unhide P2).cell 2
  simp at ca0 ca1 ca2
  have lca : w.heap.size < w2.heap.size := by omega
  go_wp2_with fail
  clear ca0 ca1 ca2 lca
  refine (toDevice_any _ _ _ _ _ _ D _ (unhide A2) k1 k2 k3).mono ?_
  rintro e w3 ⟨⟨t1, t2, t3, rfl, hO⟩, hb⟩
  have z3 : w2.heap.size ≤ w3.heap.size := hb.size
  have A3 := hide ((unhide A2).below hb)
  have P3 := hide ((unhide P2).below hb)
  have B3 := hide (below_step (unhide B2) hb (by omega))
  clear hb A2 P2 B2
  have T4 := hide hO
  have LT := hide (fun q hq => OwnDev.lt (q := q) hO hq)
  clear hO
  go_wp2_with fail
  refine (specDeviceFault_any _ _ _ _ _ _ D _ (unhide T4).reads k1 k2 k3).mono ?_
  rintro e w5 ⟨rfl, hb⟩
  have z5 : w3.heap.size ≤ w5.heap.size := hb.size
  have A5 := hide ((unhide A3).below hb)
  have P5 := hide ((unhide P3).below hb)
  have T5 := hide ((unhide T4).below hb)
  have B5 := hide (below_step (unhide B3) hb (by omega))
  clear hb A3 P3 T4 B3
  have ca0 := (unhide P5).cell 0
  have ca1 := (unhide P5).cell 1
  have ca2 := (unhide P5).cell 2
  simp at ca0 ca1 ca2
  have lca : w.heap.size < w5.heap.size := by omega
  generalize hcd : devFault D = cd at *
  have HCD := hide hcd
  clear hcd
  go_wp2_with fail
  clear ca0 ca1 ca2 lca
  refine (toDevice_any _ _ _ _ _ _ D _ (unhide A5) k1 k2 k3).mono ?_
  rintro e w6 ⟨⟨x1, x2, x3, rfl, hO⟩, hb⟩
  have z6 : w5.heap.size ≤ w6.heap.size := hb.size
  have A6 := hide ((unhide A5).below hb)
  have P6 := hide ((unhide P5).below hb)
  have B6 := hide (below_step (unhide B5) hb (by omega))
  clear hb A5 P5 B5
  have X7 := hide hO
  have LX := hide (fun q hq => OwnDev.lt (q := q) hO hq)
  clear hO
  go_wp2_with fail
  obtain ⟨W8, hW, z8, hbx, hx⟩ := boxes1 w6 [.slice (some ⟨x1, 0, none⟩) D.words.length D.words.length, .slice (some ⟨x2, 0, none⟩) D.flights.length D.flights.length, .slice (some ⟨x3, 0, none⟩) D.over.length D.over.length] 30
  rw [← hW]
  clear hW
  have A8 := hide ((unhide A6).below (unhide hbx))
  have P8 := hide ((unhide P6).below (unhide hbx))
  have X8 := hide ((unhide X7).below (unhide hbx))
  have B8 := hide (below_step (unhide B6) (unhide hbx) (by omega))
  have Q8 := hx
  clear hbx hx A6 P6 X7 B6
  have u8 : w6.heap.size < W8.heap.size := by omega
  generalize w6.heap.size = b8 at *
  refine (implDeviceFault_any _ _ _ _ _ _ D _ (unhide X8).reads k1 k2 k3).mono ?_
  rintro e w9 ⟨rfl, hb⟩
  have z9 : W8.heap.size ≤ w9.heap.size := hb.size
  have A9 := hide ((unhide A8).below hb)
  have P9 := hide ((unhide P8).below hb)
  have X9 := hide ((unhide X8).below hb)
  have Q9 := hide ((unhide Q8).below hb)
  have B9 := hide (below_step (unhide B8) hb (by omega))
  clear hb A8 P8 X8 Q8 B8
  rw [unhide HCD]
  have hne := int_neq_self cd
  have ca0 := (unhide P9).cell 0
  have ca1 := (unhide P9).cell 1
  have ca2 := (unhide P9).cell 2
  simp at ca0 ca1 ca2
  have lca : w.heap.size < w9.heap.size := by omega
  have cx0 := (unhide Q9).cell 0
  have cx1 := (unhide Q9).cell 1
  have cx2 := (unhide Q9).cell 2
  simp at cx0 cx1 cx2
  have lcx : b8 < w9.heap.size := by omega
  have hD : (fun w' => Below w9.heap.size w9 w' ∧ w'.cell? ⟨w.heap.size, 0, none⟩ = some (.slice a1 D.words.length c1) ∧ w'.cell? ⟨w.heap.size, 1, none⟩ = some (.slice a2 D.flights.length c2) ∧ w'.cell? ⟨w.heap.size, 2, none⟩ = some (.slice a3 D.over.length c3) ∧ w'.cell? ⟨b8, 0, none⟩ = some (.slice (some ⟨x1, 0, none⟩) D.words.length D.words.length) ∧ w'.cell? ⟨b8, 1, none⟩ = some (.slice (some ⟨x2, 0, none⟩) D.flights.length D.flights.length) ∧ w'.cell? ⟨b8, 2, none⟩ = some (.slice (some ⟨x3, 0, none⟩) D.over.length D.over.length)) w9.drew := ⟨(Below.refl _ _).drew, ca0, ca1, ca2, cx0, cx1, cx2⟩
  have HD := hide hD
  clear hD
  go_wp2_with fail
  clear ca0 ca1 ca2 lca cx0 cx1 cx2 lcx
  go_region_held3 (fun w' => Below w9.heap.size w9 w' ∧ w'.cell? ⟨w.heap.size, 0, none⟩ = some (.slice a1 D.words.length c1) ∧ w'.cell? ⟨w.heap.size, 1, none⟩ = some (.slice a2 D.flights.length c2) ∧ w'.cell? ⟨w.heap.size, 2, none⟩ = some (.slice a3 D.over.length c3) ∧ w'.cell? ⟨b8, 0, none⟩ = some (.slice (some ⟨x1, 0, none⟩) D.words.length D.words.length) ∧ w'.cell? ⟨b8, 1, none⟩ = some (.slice (some ⟨x2, 0, none⟩) D.flights.length D.flights.length) ∧ w'.cell? ⟨b8, 2, none⟩ = some (.slice (some ⟨x3, 0, none⟩) D.over.length D.over.length)) (first | exact unhide HD | exact keep6 (by omega) (by omega) (by assumption) (by assumption))
    (first
      | (go_at_call 15; refine (toDevice_any _ _ _ _ _ _ _ _ ((unhide A9).below (sleft (by assumption))) k1 k2 k3).mono ?_; rintro e w5 ⟨⟨h1, h2, h3, rfl, hO⟩, hb5⟩)
      | (go_at_call 17; refine (eqDevice_same _ _ _ _ _ _ _ _ _ _ _ _ D _ ((unhide X9).reads.below (sleft (by assumption))) (OwnDev.reads (D := D) (by assumption)) k1 k2 k3).mono ?_; rintro e w5 ⟨rfl, hb5⟩))
  rename_i hS
  have hbS := hS.1
  clear hS HD hb5
  generalize hwn : w5 = w10 at *
  clear hwn
  have z10 : w9.heap.size ≤ w10.heap.size := hbS.size
  have A10 := hide ((unhide A9).below hbS)
  have P10 := hide ((unhide P9).below hbS)
  have X10 := hide ((unhide X9).below hbS)
  have Q10 := hide ((unhide Q9).below hbS)
  have B10 := hide (below_step (unhide B9) hbS (by omega))
  clear hbS A9 P9 X9 Q9 B9
  go_wp2_with fail
  go_ret
  exact ⟨rfl, unhide B10⟩
end Go.Proofs.Ytpngbpohopkkaaa.fnExactDeviceFault
