/-
  The laws' own marks of a state, told weakly: they write nothing but the rows of it.
-/
import Derived.Test.YtaadbgebcknfkaaStateLaws
import Derived.Test.YtaadbgebcknfkaaItemMark
import Derived.Test.YtaadbgebcknfkaaNoteMark
namespace Go.Proofs.Ytaadbgebcknfkaa
open Go.RowKit
set_option linter.unusedVariables false

set_option maxRecDepth 20000 in
set_option maxHeartbeats 2000000 in
theorem markDeviceB (a1 a2 a3 : Option Addr) (c1 c2 c3 n1 n2 n3 : Nat) (m : Int) (w : World) (lo hi : Nat) (h1 : RowB w 2 a1 (n1 * 1) lo hi) (h2 : RowB w 192 a2 (n2 * 2) lo hi) (h3 : RowB w 192 a3 (n3 * 2) lo hi) (hh : hi ≤ w.heap.size) (k1 : n1 ≤ 1048576) (k2 : n2 ≤ 1048576) (k3 : n3 ≤ 1048576) (m0 : 1 ≤ m) (m1 : m ≤ 1000) :
    Calls Try.prog 72 #[.agg #[.slice a1 n1 c1, .slice a2 n2 c2, .slice a3 n3 c3], .int .i64 m] w fun e w' => (∃ k : Int, e = .returned (.int .i64 k) ∧ m ≤ k ∧ k ≤ 10000000) ∧ Shp w w' ∧ Out (fun q => lo ≤ q ∧ q < hi) w w' ∧ ∀ t, t ≠ 2 → t ≠ 192 → Kept t w w' := by
  obtain ⟨W, hW, z1, b, x⟩ := boxes1 w [.slice a1 n1 c1, .slice a2 n2 c2, .slice a3 n3 c3] 66
  have H1 := hide (h1.shp (Shp.ofBelow (unhide b)))
  have H2 := hide (h2.shp (Shp.ofBelow (unhide b)))
  have H3 := hide (h3.shp (Shp.ofBelow (unhide b)))
  have S1 := hide (Shp.ofBelow (unhide b))
  have U1 := hide (Out.ofBelow (F := fun q => lo ≤ q ∧ q < hi) (unhide b))
  have V1 : Hid (∀ t, t ≠ 2 → t ≠ 192 → Kept t w W) := fun t _ _ => Kept.ofBelow (unhide b)
  clear h1 h2 h3 b
  go_enter Try.func72, Try.ntmps72
  go_wp2_with fail
  rw [← hW]
  clear hW
  refine (markInt64B a1 c1 n1 m W lo hi (by have := unhide H1; rwa [Nat.mul_one] at this) k1 (by omega) (by omega)).mono ?_
  rintro e w2 ⟨rfl, s2, o2⟩
  have R2 : Out (fun q => lo ≤ q ∧ q < hi) W w2 := o2.weak (fun q _ e => RowB.in (unhide H1) (by omega) e.2)
  have X2 := hide ((unhide x).out R2 (fun h => by omega))
  have S2 := hide ((unhide S1).trans s2)
  have U2 := hide ((unhide U1).trans R2 (fun q _ h => h))
  have G2 := hide ((unhide H2).shp s2)
  have G3 := hide ((unhide H3).shp s2)
  have q1 := (unhide X2).cell 1
  simp only [List.getElem?_cons_zero, List.getElem?_cons_succ] at q1
  have z2 : W.heap.size ≤ w2.heap.size := R2.size
  have V2 : Hid (∀ t, t ≠ 2 → t ≠ 192 → Kept t w w2) := fun t h1 h2 => (unhide V1 t h1 h2).trans (kept_of o2 (unhide H1) (by omega) (Ne.symm h1))
  clear s2 o2 R2 x S1 U1 H1 H2 H3 V1
  go_wp2_with fail
  clear q1
  refine (markCellB a2 c2 n2 (m + n1) w2 lo hi (unhide G2) k2 (by omega) (by omega)).mono ?_
  rintro e w3 ⟨rfl, s3, o3⟩
  have R3 : Out (fun q => lo ≤ q ∧ q < hi) w2 w3 := o3.weak (fun q _ e => RowB.in (unhide G2) (by omega) e.2)
  have X3 := hide ((unhide X2).out R3 (fun h => by omega))
  have S3 := hide ((unhide S2).trans s3)
  have U3 := hide ((unhide U2).trans R3 (fun q _ h => h))
  have K3 := hide ((unhide G3).shp s3)
  have q2 := (unhide X3).cell 2
  simp only [List.getElem?_cons_zero, List.getElem?_cons_succ] at q2
  have z3 : w2.heap.size ≤ w3.heap.size := R3.size
  have V3 : Hid (∀ t, t ≠ 2 → t ≠ 192 → Kept t w w3) := fun t h1 h2 => (unhide V2 t h1 h2).trans (kept_of o3 (unhide G2) (by omega) (Ne.symm h2))
  clear s3 o3 R3 X2 S2 U2 G2 G3 V2
  go_wp2_with fail
  clear q2
  refine (markCellB a3 c3 n3 (m + n1 + 2 * n2) w3 lo hi (unhide K3) k3 (by omega) (by omega)).mono ?_
  rintro e w4 ⟨rfl, s4, o4⟩
  have R4 : Out (fun q => lo ≤ q ∧ q < hi) w3 w4 := o4.weak (fun q _ e => RowB.in (unhide K3) (by omega) e.2)
  have S4 := hide ((unhide S3).trans s4)
  have U4 := hide ((unhide U3).trans R4 (fun q _ h => h))
  have V4 : Hid (∀ t, t ≠ 2 → t ≠ 192 → Kept t w w4) := fun t h1 h2 => (unhide V3 t h1 h2).trans (kept_of o4 (unhide K3) (by omega) (Ne.symm h2))
  clear s4 o4 R4 X3 S3 U3 K3 V3
  go_wp2_with fail
  go_ret
  exact ⟨⟨_, rfl, by omega, by omega⟩, unhide S4, unhide U4, unhide V4⟩
theorem StaA.lensB {x : StaA} (h : x.lens 1048576) : x.D.words.length ≤ 1048576 ∧ x.D.flights.length ≤ 1048576 ∧ x.D.over.length ≤ 1048576 ∧ x.LI.length ≤ 1048576 ∧ x.bl.length ≤ 1048576 ∧ x.cl.length ≤ 1048576 ∧ x.LN.length ≤ 1048576 := ⟨h.l1, h.l2, h.l3, h.lI, h.lB, h.lC, h.lN⟩
/-- The rows of a state of our own. -/
structure StaA.rows (lo hi : Nat) (w : World) (x : StaA) : Prop where
  r1 : RowB w 2 x.a1 (x.D.words.length * 1) lo hi
  r2 : RowB w 192 x.a2 (x.D.flights.length * 2) lo hi
  r3 : RowB w 192 x.a3 (x.D.over.length * 2) lo hi
  its : ∃ g, x.aI = some ⟨g, 0, none⟩ ∧ ItmsB w g x.LI lo hi
  bs : RowB w 4 x.aB (x.bl.length * 1) lo hi
  cs : RowB w 2 x.aC (x.cl.length * 1) lo hi
  ns : ∃ g, x.aN = some ⟨g, 0, none⟩ ∧ NtesB w g x.LN lo hi
theorem StaA.own.rows {lo : Nat} {w : World} {x : StaA} (h : x.own lo w) : x.rows lo w.heap.size w := by
  obtain ⟨g, e, hi⟩ := h.its
  obtain ⟨k, f, hn⟩ := h.ns
  exact ⟨rowB_own h.dev.o1, rowB_own h.dev.o2, rowB_own h.dev.o3, ⟨g, e, itmsB_box hi.1 hi.2.1 hi.2.2⟩, rowB_own h.bs, rowB_own h.cs, ⟨k, f, ntesB_box hn.1 hn.2.1 hn.2.2⟩⟩
theorem ItmsB.below {w w' : World} {g lo hi : Nat} {L : List ItmA} (h : ItmsB w g L lo hi) (hb : Below w.heap.size w w') : ItmsB w' g L lo hi := by
  obtain ⟨⟨xs, hx, hl, hk⟩, h1, h2, h3⟩ := h
  exact ⟨⟨xs, hx.below hb, hl, hk⟩, h1, h2, fun x hx => ⟨(h3 x hx).1.shp (Shp.ofBelow hb), (h3 x hx).2⟩⟩
theorem NtesB.below {w w' : World} {g lo hi : Nat} {L : List NteA} (h : NtesB w g L lo hi) (hb : Below w.heap.size w w') : NtesB w' g L lo hi := by
  obtain ⟨⟨xs, hx, hl, hk⟩, h1, h2, h3⟩ := h
  exact ⟨⟨xs, hx.below hb, hl, hk⟩, h1, h2, fun x hx => by
    obtain ⟨k1, k2, k3, k4⟩ := h3 x hx
    exact ⟨k1.shp (Shp.ofBelow hb), k2.shp (Shp.ofBelow hb), k3.shp (Shp.ofBelow hb), k4⟩⟩
theorem StaA.rows.below {lo hi : Nat} {w w' : World} {x : StaA} (h : x.rows lo hi w) (hb : Below w.heap.size w w') : x.rows lo hi w' := by
  obtain ⟨g, e, hi⟩ := h.its
  obtain ⟨k, f, hn⟩ := h.ns
  exact ⟨h.r1.shp (Shp.ofBelow hb), h.r2.shp (Shp.ofBelow hb), h.r3.shp (Shp.ofBelow hb), ⟨g, e, hi.below hb⟩, h.bs.shp (Shp.ofBelow hb), h.cs.shp (Shp.ofBelow hb), ⟨k, f, hn.below hb⟩⟩
set_option maxRecDepth 20000 in
set_option maxHeartbeats 4000000 in
theorem markStateB (x : StaA) (w : World) (lo hi : Nat) (h : x.rows lo hi w) (hh : hi ≤ w.heap.size) (hl : x.lens 1048576) :
    Calls Try.prog 27 #[.agg #[.bool x.up, .int .i64 x.now, .int .i64 x.su, .slice x.a1 x.D.words.length x.c1, .slice x.a2 x.D.flights.length x.c2, .slice x.a3 x.D.over.length x.c3, .slice x.aI x.LI.length x.cI, .int .i64 x.fr, .slice x.aB x.bl.length x.cB, .slice x.aC x.cl.length x.cC, .slice x.aN x.LN.length x.cN], .int .i64 1] w fun e w' => (∃ k : Int, e = .returned (.int .i64 k) ∧ 1 ≤ k) ∧ Shp w w' ∧ Out (fun q => lo ≤ q ∧ q < hi) w w' := by
  obtain ⟨up, now, su, D, a1, a2, a3, c1, c2, c3, LI, aI, cI, fr, bl, aB, cB, cl, aC, cC, LN, aN, cN⟩ := x
  obtain ⟨l1, l2, l3, lI, lB, lC, lN⟩ := StaA.lensB hl
  obtain ⟨r1, r2, r3, ⟨gI, eI, hI⟩, rb, rc, ⟨gN, eN, hN⟩⟩ := h
  simp only at l1 l2 l3 lI lB lC lN r1 r2 r3 eI hI rb rc eN hN
  subst eI eN
  obtain ⟨W, hW, z1, b, x⟩ := boxes1 w [.bool up, .int .i64 now, .int .i64 su, .slice a1 D.words.length c1, .slice a2 D.flights.length c2, .slice a3 D.over.length c3, .slice (some ⟨gI, 0, none⟩) LI.length cI, .int .i64 fr, .slice aB bl.length cB, .slice aC cl.length cC, .slice (some ⟨gN, 0, none⟩) LN.length cN] 70
  have sb := Shp.ofBelow (unhide b)
  have R1 := hide (r1.shp sb)
  have R2 := hide (r2.shp sb)
  have R3 := hide (r3.shp sb)
  have HI := hide (hI.below (unhide b))
  have HB := hide (rb.shp sb)
  have HC := hide (rc.shp sb)
  have HN := hide (hN.below (unhide b))
  have S1 := hide sb
  have U1 := hide (Out.ofBelow (F := fun q => lo ≤ q ∧ q < hi) (unhide b))
  clear r1 r2 r3 hI rb rc hN sb b hl
  go_enter Try.func27, Try.ntmps27
  go_wp2_with fail
  rw [← hW]
  clear hW
  refine (markDeviceB a1 a2 a3 c1 c2 c3 _ _ _ 1 W lo hi (unhide R1) (unhide R2) (unhide R3) (by omega) l1 l2 l3 (by omega) (by omega)).mono ?_
  rintro e w2 ⟨⟨k2, rfl, k20, k21⟩, s2, o2, q2⟩
  have z2 : W.heap.size ≤ w2.heap.size := o2.size
  have X2 := hide ((unhide x).out o2 (fun h => by omega))
  have S2 := hide ((unhide S1).trans s2)
  have U2 := hide ((unhide U1).trans o2 (fun q _ h => h))
  have I2 := hide ((unhide HI).kept s2 (q2 _ (by decide) (by decide)))
  have B2 := hide ((unhide HB).shp s2)
  have C2 := hide ((unhide HC).shp s2)
  have N2 := hide ((unhide HN).kept s2 (q2 _ (by decide) (by decide)))
  have p6 := (unhide X2).cell 6
  simp only [List.getElem?_cons_zero, List.getElem?_cons_succ] at p6
  clear s2 o2 q2 x S1 U1 R1 R2 R3 HI HB HC HN
  go_wp2_with fail
  clear p6
  refine (markItemB gI cI _ LI k2 w2 lo hi (unhide I2) rfl lI (by omega) (by omega)).mono ?_
  rintro e w3 ⟨⟨k3, rfl, k30, k31⟩, s3, o3, q3⟩
  have z3 : w2.heap.size ≤ w3.heap.size := o3.size
  have X3 := hide ((unhide X2).out o3 (fun h => by omega))
  have S3 := hide ((unhide S2).trans s3)
  have U3 := hide ((unhide U2).trans o3 (fun q _ h => h))
  have B3 := hide ((unhide B2).shp s3)
  have C3 := hide ((unhide C2).shp s3)
  have N3 := hide ((unhide N2).kept s3 (q3 _ (by decide) (by decide)))
  have p8 := (unhide X3).cell 8
  simp only [List.getElem?_cons_zero, List.getElem?_cons_succ] at p8
  clear s3 o3 q3 X2 S2 U2 I2 B2 C2 N2
  go_wp2_with fail
  clear p8
  refine (markBoolB aB cB bl.length k3 w3 lo hi (by have := unhide B3; rwa [Nat.mul_one] at this) lB (by omega) (by omega)).mono ?_
  rintro e w4 ⟨rfl, s4, o4⟩
  have r4 : Out (fun q => lo ≤ q ∧ q < hi) w3 w4 := o4.weak (fun q _ e => RowB.in (unhide B3) (by omega) e.2)
  have z4 : w3.heap.size ≤ w4.heap.size := r4.size
  have X4 := hide ((unhide X3).out r4 (fun h => by omega))
  have S4 := hide ((unhide S3).trans s4)
  have U4 := hide ((unhide U3).trans r4 (fun q _ h => h))
  have C4 := hide ((unhide C3).shp s4)
  have N4 := hide ((unhide N3).kept s4 (kept_of o4 (unhide B3) (by omega) (by decide)))
  have p9 := (unhide X4).cell 9
  simp only [List.getElem?_cons_zero, List.getElem?_cons_succ] at p9
  clear s4 o4 r4 X3 S3 U3 B3 C3 N3
  go_wp2_with fail
  clear p9
  refine (markInt64B aC cC cl.length (k3 + bl.length) w4 lo hi (by have := unhide C4; rwa [Nat.mul_one] at this) lC (by omega) (by omega)).mono ?_
  rintro e w5 ⟨rfl, s5, o5⟩
  have r5 : Out (fun q => lo ≤ q ∧ q < hi) w4 w5 := o5.weak (fun q _ e => RowB.in (unhide C4) (by omega) e.2)
  have z5 : w4.heap.size ≤ w5.heap.size := r5.size
  have X5 := hide ((unhide X4).out r5 (fun h => by omega))
  have S5 := hide ((unhide S4).trans s5)
  have U5 := hide ((unhide U4).trans r5 (fun q _ h => h))
  have N5 := hide ((unhide N4).kept s5 (kept_of o5 (unhide C4) (by omega) (by decide)))
  have p10 := (unhide X5).cell 10
  simp only [List.getElem?_cons_zero, List.getElem?_cons_succ] at p10
  clear s5 o5 r5 X4 S4 U4 C4 N4
  go_wp2_with fail
  clear p10
  refine (markNoteB gN cN _ LN (k3 + bl.length + cl.length) w5 lo hi (unhide N5) rfl lN (by omega) (by omega)).mono ?_
  rintro e w6 ⟨⟨k6, rfl, k60, k61⟩, s6, o6⟩
  have S6 := hide ((unhide S5).trans s6)
  have U6 := hide ((unhide U5).trans o6 (fun q _ h => h))
  clear s6 o6 X5 S5 U5 N5
  go_wp2_with fail
  go_ret
  exact ⟨⟨_, rfl, by omega⟩, unhide S6, unhide U6⟩
end Go.Proofs.Ytaadbgebcknfkaa
