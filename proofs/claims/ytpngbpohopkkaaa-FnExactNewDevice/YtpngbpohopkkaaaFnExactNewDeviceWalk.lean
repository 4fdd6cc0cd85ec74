/-
  The walk of laws.FnExactNewDevice: it returns true, and writes nothing that was there.
-/
import Derived.Test.YtpngbpohopkkaaaNewDevWalk
import Derived.Test.YtpngbpohopkkaaaDevEq
import Derived.Test.YtpngbpohopkkaaaDevMark
namespace Go.Proofs.Ytpngbpohopkkaaa.fnExactNewDevice
open Go.RowKit

theorem newDev_len (n : Int) : (newDev n).words.length ≤ 1048576 ∧ (newDev n).flights.length ≤ 1048576 ∧ (newDev n).over.length ≤ 1048576 := by
  unfold newDev
  split
  · rename_i h
    have := inB_true.1 h
    simp; omega
  · simp [none']

set_option maxHeartbeats 1000000 in
theorem walk (n : Int) (w : World) (_w0 : (Lit.int .i64 n).wf = true) :
    Calls Try.prog 4 #[.int .i64 n] w fun e w' => e = .returned (.bool true) ∧ Below w.heap.size w w' := by
  obtain ⟨n1, n2, n3⟩ := newDev_len n
  go_enter Try.func4, Try.ntmps4
  go_wp2_with fail
  refine (specNewDevice_any n _).mono ?_
  rintro e w1 ⟨⟨s1, s2, s3, rfl, hO⟩, hb⟩
  have z1 : w.heap.size ≤ w1.heap.size := hb.size
  have B1 := hide hb
  clear hb
  obtain ⟨as1, cs1, as2, cs2, as3, cs3, e1, e2, e3, -⟩ := hO.form
  subst e1 e2 e3
  have S2 := hide hO
  have LS := hide (fun q hq => OwnDev.lt (q := q) hO hq)
  clear hO
  generalize hcd : newCode n = cd at *
  have HCD := hide hcd
  clear hcd
  go_wp2_with fail
  obtain ⟨W3, hW, z3, hbx, hx⟩ := boxes1 w1 [.int .i64 cd, .slice as1 (newDev n).words.length cs1, .slice as2 (newDev n).flights.length cs2, .slice as3 (newDev n).over.length cs3] 35
  rw [← hW]
  clear hW
  have S3 := hide ((unhide S2).below (unhide hbx))
  have B3 := hide (below_step (unhide B1) (unhide hbx) (by omega))
  have P3 := hx
  clear hbx hx S2 B1
  have u3 : w1.heap.size < W3.heap.size := by omega
  generalize w1.heap.size = b3 at *
  refine (implNewDevice_any n _).mono ?_
  rintro e w4 ⟨⟨s1, s2, s3, rfl, hO⟩, hb⟩
  have z4 : W3.heap.size ≤ w4.heap.size := hb.size
  have S4 := hide ((unhide S3).below hb)
  have P4 := hide ((unhide P3).below hb)
  have B4 := hide (below_step (unhide B3) hb (by omega))
  clear hb S3 P3 B3
  rw [unhide HCD]
  obtain ⟨ag1, cg1, ag2, cg2, ag3, cg3, e1, e2, e3, -⟩ := hO.form
  subst e1 e2 e3
  have G5 := hide hO
  have LG := hide (fun q hq => OwnDev.lt (q := q) hO hq)
  clear hO
  have p0 := (unhide P4).cell 0
  have p1 := (unhide P4).cell 1
  have p2 := (unhide P4).cell 2
  have p3 := (unhide P4).cell 3
  simp at p0 p1 p2 p3
  have lp : b3 < w4.heap.size := by omega
  go_wp2_with fail
  clear p0 p1 p2 p3 lp
  obtain ⟨W6, hW, z6, hbx, hx⟩ := boxes1 w4 [.int .i64 cd, .slice ag1 (newDev n).words.length cg1, .slice ag2 (newDev n).flights.length cg2, .slice ag3 (newDev n).over.length cg3] 35
  rw [← hW]
  clear hW
  have S6 := hide ((unhide S4).below (unhide hbx))
  have P6 := hide ((unhide P4).below (unhide hbx))
  have G6 := hide ((unhide G5).below (unhide hbx))
  have B6 := hide (below_step (unhide B4) (unhide hbx) (by omega))
  have Q6 := hx
  clear hbx hx S4 P4 G5 B4
  have u6 : w4.heap.size < W6.heap.size := by omega
  generalize w4.heap.size = b6 at *
  refine (eqDeviceResult_same cd _ _ _ _ _ _ _ _ _ _ _ _ (newDev n) _ (unhide G6).reads (unhide S6).reads n1 n2 n3).mono ?_
  rintro e w7 ⟨rfl, hb⟩
  have z7 : W6.heap.size ≤ w7.heap.size := hb.size
  have S7 := hide ((unhide S6).below hb)
  have P7 := hide ((unhide P6).below hb)
  have G7 := hide ((unhide G6).below hb)
  have Q7 := hide ((unhide Q6).below hb)
  have B7 := hide (below_step (unhide B6) hb (by omega))
  clear hb S6 P6 G6 Q6 B6
  have q0 := (unhide Q7).cell 0
  have q1 := (unhide Q7).cell 1
  have q2 := (unhide Q7).cell 2
  have q3 := (unhide Q7).cell 3
  simp at q0 q1 q2 q3
  have lq : b6 < w7.heap.size := by omega
  go_wp2_with fail
  clear q0 q1 q2 q3 lq
  refine (markDeviceResult_any cd _ _ _ _ (newDev n) 1 _ (unhide G7) n1 n2 n3 (by omega) (by omega)).mono ?_
  rintro e w8 ⟨rfl, hO, ho⟩
  have z8 : w7.heap.size ≤ w8.heap.size := ho.size
  have S8 := hide ((unhide S7).out ho (fun q hq h => by have h2 := unhide LG _ h; have h1 := unhide LS _ hq; omega))
  have P8 := hide ((unhide P7).out ho (fun h => by have h2 := unhide LG _ h; omega))
  have Q8 := hide ((unhide Q7).out ho (fun h => by have h2 := unhide LG _ h; omega))
  have B8 := hide (ho.below (unhide B7) (Nat.le_refl _) (fun q hq h => by have h2 := unhide LG _ h; omega))
  have G8 := hide hO
  clear ho hO S7 P7 Q7 B7 G7
  have q0 := (unhide Q8).cell 0
  have q1 := (unhide Q8).cell 1
  have q2 := (unhide Q8).cell 2
  have q3 := (unhide Q8).cell 3
  simp at q0 q1 q2 q3
  have lq : b6 < w8.heap.size := by omega
  have k1 : ¬ markedTo (newDev n) 1 < 0 := by unfold markedTo; omega
  have k2 := int_neq_self (markedTo (newDev n) 1)
  go_wp2_with fail
  clear q0 q1 q2 q3 lq
  refine (heldDeviceResult_any cd _ _ _ _ _ _ (newDev n) 1 _ (unhide G8).reads n1 n2 n3 (by omega) (by omega)).mono ?_
  rintro e w9 ⟨rfl, hb⟩
  have z9 : w8.heap.size ≤ w9.heap.size := hb.size
  have S9 := hide ((unhide S8).below hb)
  have P9 := hide ((unhide P8).below hb)
  have G9 := hide ((unhide G8).below hb)
  have Q9 := hide ((unhide Q8).below hb)
  have B9 := hide (below_step (unhide B8) hb (by omega))
  clear hb S8 P8 G8 Q8 B8
  go_wp2_with fail
  refine (implNewDevice_any n _).mono ?_
  rintro e w10 ⟨⟨s1, s2, s3, rfl, hO⟩, hb⟩
  have z10 : w9.heap.size ≤ w10.heap.size := hb.size
  have S10 := hide ((unhide S9).below hb)
  have P10 := hide ((unhide P9).below hb)
  have G10 := hide ((unhide G9).below hb)
  have Q10 := hide ((unhide Q9).below hb)
  have B10 := hide (below_step (unhide B9) hb (by omega))
  clear hb S9 P9 G9 Q9 B9
  rw [unhide HCD]
  obtain ⟨ah1, ch1, ah2, ch2, ah3, ch3, e1, e2, e3, -⟩ := hO.form
  subst e1 e2 e3
  have H11 := hide hO
  have LH := hide (fun q hq => OwnDev.lt (q := q) hO hq)
  clear hO
  have p0 := (unhide P10).cell 0
  have p1 := (unhide P10).cell 1
  have p2 := (unhide P10).cell 2
  have p3 := (unhide P10).cell 3
  simp at p0 p1 p2 p3
  have lp : b3 < w10.heap.size := by omega
  go_wp2_with fail
  clear p0 p1 p2 p3 lp
  obtain ⟨W12, hW, z12, hbx, hx⟩ := boxes1 w10 [.int .i64 cd, .slice ah1 (newDev n).words.length ch1, .slice ah2 (newDev n).flights.length ch2, .slice ah3 (newDev n).over.length ch3] 35
  rw [← hW]
  clear hW
  have S12 := hide ((unhide S10).below (unhide hbx))
  have P12 := hide ((unhide P10).below (unhide hbx))
  have G12 := hide ((unhide G10).below (unhide hbx))
  have Q12 := hide ((unhide Q10).below (unhide hbx))
  have H12 := hide ((unhide H11).below (unhide hbx))
  have B12 := hide (below_step (unhide B10) (unhide hbx) (by omega))
  have R12 := hx
  clear hbx hx S10 P10 G10 Q10 H11 B10
  have u12 : w10.heap.size < W12.heap.size := by omega
  generalize w10.heap.size = b12 at *
  refine (eqDeviceResult_same cd _ _ _ _ _ _ _ _ _ _ _ _ (newDev n) _ (unhide H12).reads (unhide S12).reads n1 n2 n3).mono ?_
  rintro e w13 ⟨rfl, hb⟩
  have z13 : W12.heap.size ≤ w13.heap.size := hb.size
  have S13 := hide ((unhide S12).below hb)
  have P13 := hide ((unhide P12).below hb)
  have G13 := hide ((unhide G12).below hb)
  have Q13 := hide ((unhide Q12).below hb)
  have H13 := hide ((unhide H12).below hb)
  have R13 := hide ((unhide R12).below hb)
  have B13 := hide (below_step (unhide B12) hb (by omega))
  clear hb S12 P12 G12 Q12 H12 R12 B12
  have q0 := (unhide Q13).cell 0
  have q1 := (unhide Q13).cell 1
  have q2 := (unhide Q13).cell 2
  have q3 := (unhide Q13).cell 3
  simp at q0 q1 q2 q3
  have lq : b6 < w13.heap.size := by omega
  go_wp2_with fail
  clear q0 q1 q2 q3 lq
  refine (heldDeviceResult_any cd _ _ _ _ _ _ (newDev n) 1 _ (unhide G13).reads n1 n2 n3 (by omega) (by omega)).mono ?_
  rintro e w14 ⟨rfl, hb⟩
  have z14 : w13.heap.size ≤ w14.heap.size := hb.size
  have S14 := hide ((unhide S13).below hb)
  have P14 := hide ((unhide P13).below hb)
  have G14 := hide ((unhide G13).below hb)
  have Q14 := hide ((unhide Q13).below hb)
  have H14 := hide ((unhide H13).below hb)
  have R14 := hide ((unhide R13).below hb)
  have B14 := hide (below_step (unhide B13) hb (by omega))
  clear hb S13 P13 G13 Q13 H13 R13 B13
  go_wp2_with fail
  go_ret
  exact ⟨rfl, unhide B14⟩
end Go.Proofs.Ytpngbpohopkkaaa.fnExactNewDevice
