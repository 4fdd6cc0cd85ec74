/-
  What spec.PackGone, PackNode and PackData answer.
-/
import Derived.Test.YtaadbgebcknfkaaPackMath
import Derived.Test.YtaadbgebcknfkaaDevTo
import Derived.Handy
import Derived.Laws.OwnMore
namespace Go.Proofs.Ytaadbgebcknfkaa
open Go.RowKit

theorem l3Epoch_any (n : Int) (w : World) :
    Calls Try.prog 117 #[.int .i64 n] w fun e w' => e = .returned (.bool (inB n 1 9999)) ∧ w' = w := by
  go_enter Try.func117, Try.ntmps117
  go_wp2_with fail
  refine (l1In_any n 1 9999 _).mono ?_
  rintro e w1 ⟨rfl, rfl⟩
  generalize hr : inB n 1 9999 = r at *
  have HR := hide hr
  clear hr
  go_wp2_with fail
  go_ret
  exact ⟨ret_bool (unhide HR).symm, rfl⟩
theorem l1HeadWord_bel (b : Nat) (k u i e : Int) (w : World) (hok : headOk k u i e = true)
    (c0 : w.cell? ⟨b, 0, none⟩ = some (.int .i64 k)) (c1 : w.cell? ⟨b, 1, none⟩ = some (.int .i64 u)) (c2 : w.cell? ⟨b, 2, none⟩ = some (.int .i64 i)) (c3 : w.cell? ⟨b, 3, none⟩ = some (.int .i64 e)) :
    Calls Try.prog 79 #[.pointer (some ⟨b, 0, none⟩)] w fun r w' => r = .returned (.int .i64 (headWordI k u i e)) ∧ Below w.heap.size w w' := by
  refine (l1HeadWord_any b k u i e w hok c0 c1 c2 c3).mono ?_
  rintro r w1 ⟨rfl, n, rfl⟩
  exact ⟨rfl, below_drewN (Below.refl _ _) n⟩
theorem own_lit8 (w : World) (base : Nat) (hb : base ≤ w.heap.size) (l : List Int) (hl : l.length = 8) : (w.alloc (.cells (nums l).toArray 2)).ownsRow base 2 1 (.slice (some ⟨w.heap.size, 0, none⟩) 8 8) 8 (nums l) := by
  refine ⟨by rw [nums_length, hl], .inr ⟨w.heap.size, 8, (nums l).toArray, rfl, hb, box_new w (nums l) 2, Nat.le_refl _, by simp [maxLen], by simp [nums, hl], ?_⟩⟩
  rw [List.take_of_length_le (by simp [nums, hl])]

/-- A slice of words in a row of its own. -/
def SRes (base : Nat) (w' : World) (r : Ending) (l : List Int) : Prop := ∃ v, r = .returned v ∧ w'.ownsRow base 2 1 v l.length (nums l)

set_option maxHeartbeats 1000000 in
theorem l3Gone_any (u e : Int) (w : World) (hok : headOk 3 u 0 e = true) :
    Calls Try.prog 37 #[.int .i64 u, .int .i64 e] w fun r w' => SRes w.heap.size w' r [headWordI 3 u 0 e, 0, 0, 0, 0, 0, 0, 0] ∧ Below w.heap.size w w' := by
  obtain ⟨W, hW, hWz, HB0, HX0⟩ := boxes1 w [.int .i64 3, .int .i64 u, .int .i64 0, .int .i64 e] 27
  have HOK := hide hok
  clear hok
  go_enter Try.func37, Try.ntmps37
  go_wp2_with fail
  rw [← hW]
  clear hW
  refine (l1HeadWord_bel w.heap.size 3 u 0 e _ (unhide HOK) ((unhide HX0).cell 0) ((unhide HX0).cell 1) ((unhide HX0).cell 2) ((unhide HX0).cell 3)).mono ?_
  rintro r w1 ⟨rfl, hb1⟩
  have HB1 := hide (below_step (unhide HB0) hb1 (by omega))
  have hz1 : w.heap.size ≤ w1.heap.size := by have := hb1.size; omega
  clear hb1 HX0 HB0
  generalize hx : headWordI 3 u 0 e = x at *
  have HX := hide hx
  clear hx
  go_wp2_with fail
  go_ret
  refine ⟨?_, (unhide HB1).alloc hz1 _⟩
  rw [unhide HX]
  exact ⟨_, rfl, own_lit8 w1 w.heap.size hz1 [x, 0, 0, 0, 0, 0, 0, 0] rfl⟩
theorem keepN7 {W0 w' w1 : World} {b b2 : Nat} {v0 v1 v2 v3 v4 v5 v6 : Value} (h3 : b < W0.heap.size) (h4 : b2 < W0.heap.size) (hS : Below W0.heap.size W0 w' ∧ w'.cell? ⟨b, 2, none⟩ = some v0 ∧ w'.cell? ⟨b, 3, none⟩ = some v1 ∧ w'.cell? ⟨b, 4, none⟩ = some v2 ∧ w'.cell? ⟨b2, 0, none⟩ = some v3 ∧ w'.cell? ⟨b2, 1, none⟩ = some v4 ∧ w'.cell? ⟨b2, 2, none⟩ = some v5 ∧ w'.cell? ⟨b2, 3, none⟩ = some v6) (hb : Below w'.heap.size w' w1) :
    Below W0.heap.size W0 w1 ∧ w1.cell? ⟨b, 2, none⟩ = some v0 ∧ w1.cell? ⟨b, 3, none⟩ = some v1 ∧ w1.cell? ⟨b, 4, none⟩ = some v2 ∧ w1.cell? ⟨b2, 0, none⟩ = some v3 ∧ w1.cell? ⟨b2, 1, none⟩ = some v4 ∧ w1.cell? ⟨b2, 2, none⟩ = some v5 ∧ w1.cell? ⟨b2, 3, none⟩ = some v6 := by
  obtain ⟨h, c0, c1, c2, c3, c4, c5, c6⟩ := hS
  have hz := h.size
  have k : b < w'.heap.size := by omega
  have k2 : b2 < w'.heap.size := by omega
  exact ⟨below_step h hb hz, (hb.cell (p := ⟨b, 2, none⟩) k).trans c0, (hb.cell (p := ⟨b, 3, none⟩) k).trans c1, (hb.cell (p := ⟨b, 4, none⟩) k).trans c2, (hb.cell (p := ⟨b2, 0, none⟩) k2).trans c3, (hb.cell (p := ⟨b2, 1, none⟩) k2).trans c4, (hb.cell (p := ⟨b2, 2, none⟩) k2).trans c5, (hb.cell (p := ⟨b2, 3, none⟩) k2).trans c6⟩
set_option maxHeartbeats 2000000 in
theorem l3Node_any (b : Nat) (u : Int) (d : Bool) (p : Int) (nm : ByteArray) (s e : Int) (w : World) (t : TypeId) (hx : Box w b [.int .i64 u, .bool d, .int .i64 p, .string nm, .int .i64 s] t) (hok : headOk 1 u 0 e = true) (hnm : isNameL nm.data.toList = true) :
    Calls Try.prog 33 #[.pointer (some ⟨b, 0, none⟩), .int .i64 e] w fun r w' => SRes w.heap.size w' r [headWordI 1 u 0 e, nodeKindI d, p, nameWordL nm.data.toList, s, 0, 0, 0] ∧ Below w.heap.size w w' := by
  obtain ⟨W, hW, hWz, HB0, HX0⟩ := boxes1 w [.int .i64 1, .int .i64 u, .int .i64 0, .int .i64 e] 27
  have HOK := hide hok
  have HNM := hide hnm
  have HXB := hide (hx.below (unhide HB0))
  have q0 := hx.cell 0
  have q1 := hx.cell 1
  simp only [List.getElem?_cons_zero, List.getElem?_cons_succ] at q0 q1
  have zb := hx.lt
  clear hok hnm hx
  have HK : ∃ kd : Int, nodeKindI d = kd := ⟨_, rfl⟩
  obtain ⟨kd, hkd⟩ := HK
  have HKD := hide hkd
  go_enter Try.func33, Try.ntmps33
  cases d
  all_goals
    cases hkd
    go_wp2_with fail
    rw [← hW]
    clear hW q0 q1
    have q2 := (unhide HXB).cell 2
    have q3 := (unhide HXB).cell 3
    have q4 := (unhide HXB).cell 4
    have t0 := (unhide HX0).cell 0
    have t1 := (unhide HX0).cell 1
    have t2 := (unhide HX0).cell 2
    have t3 := (unhide HX0).cell 3
    simp only [List.getElem?_cons_zero, List.getElem?_cons_succ] at q2 q3 q4 t0 t1 t2 t3
    generalize hbe : w.heap.size = b2 at *
    have HBE := hide hbe
    clear hbe
    have z1 : b < W.heap.size := by omega
    have z2 : b2 < W.heap.size := by omega
    have hD : (fun w' => Below W.heap.size W w' ∧ w'.cell? ⟨b, 2, none⟩ = some (.int .i64 p) ∧ w'.cell? ⟨b, 3, none⟩ = some (.string nm) ∧ w'.cell? ⟨b, 4, none⟩ = some (.int .i64 s) ∧ w'.cell? ⟨b2, 0, none⟩ = some (.int .i64 1) ∧ w'.cell? ⟨b2, 1, none⟩ = some (.int .i64 u) ∧ w'.cell? ⟨b2, 2, none⟩ = some (.int .i64 0) ∧ w'.cell? ⟨b2, 3, none⟩ = some (.int .i64 e)) W.drew := ⟨(Below.refl _ _).drew, q2, q3, q4, t0, t1, t2, t3⟩
    go_region_held3 (fun w' => Below W.heap.size W w' ∧ w'.cell? ⟨b, 2, none⟩ = some (.int .i64 p) ∧ w'.cell? ⟨b, 3, none⟩ = some (.string nm) ∧ w'.cell? ⟨b, 4, none⟩ = some (.int .i64 s) ∧ w'.cell? ⟨b2, 0, none⟩ = some (.int .i64 1) ∧ w'.cell? ⟨b2, 1, none⟩ = some (.int .i64 u) ∧ w'.cell? ⟨b2, 2, none⟩ = some (.int .i64 0) ∧ w'.cell? ⟨b2, 3, none⟩ = some (.int .i64 e)) (first | exact hD | assumption | exact keepN7 z1 z2 (by assumption) (by assumption) | exact keepN7 z1 z2 (by assumption) (below_new _ _))
      (first
        | (go_at_call 79; refine (l1HeadWord_bel b2 1 u 0 e _ (unhide HOK) (by first | exact hD.2.2.2.2.1 | assumption) (by first | exact hD.2.2.2.2.2.1 | assumption) (by first | exact hD.2.2.2.2.2.2.1 | assumption) (by first | exact hD.2.2.2.2.2.2.2 | assumption)).mono ?_; rintro r w5 ⟨rfl, hb5⟩)
        | (go_at_call 80; refine (l1NameWord_any _ _ (unhide HNM)).mono ?_; rintro r w5 ⟨rfl, rfl⟩))
    rename_i hSF
    have z5 : b2 ≤ w5.heap.size := by have := hSF.1.size; simp at this; omega
    have HS := hide hSF.1
    clear hSF hD q2 q3 q4 t0 t1 t2 t3
    go_wp2_with fail
    go_ret
    rw [unhide HBE]
    exact ⟨⟨_, rfl, own_lit8 w5 b2 z5 [headWordI 1 u 0 e, _, p, nameWordL nm.data.toList, s, 0, 0, 0] rfl⟩, below_step (unhide HB0) (unhide HS) (by omega)⟩
set_option maxRecDepth 20000 in
set_option maxHeartbeats 2000000 in
theorem specPackGone_any (u e : Int) (w : World) :
    Calls Try.prog 93 #[.int .i64 u, .int .i64 e] w fun r w' => WRes w.heap.size w' r (goneCode u e) (goneWords u e) ∧ Below w.heap.size w w' := by
  cases h2 : inB u 1 999
  · have HC : Hid (goneCode u e = 3) := by rw [Hid, goneCode_eq, h2]; simp
    have HC2 : Hid (goneWords u e = []) := by rw [Hid, goneWords, if_neg (by rw [unhide HC]; decide)]
    go_enter Try.func93, Try.ntmps93
    go_wp2_with (first | (go_at_call 54; refine (l1In_any _ _ _ _).mono ?_; rintro e2 w2 ⟨rfl, rfl⟩) | (go_at_call 117; refine (l3Epoch_any _ _).mono ?_; rintro e2 w2 ⟨rfl, rfl⟩))
    refine bodyPost_ret (v := .agg #[.int .i64 3, .slice none 0 0]) (by simp [results, Try.results93, go_sem]) rfl ⟨?_, ?_⟩
    · rw [unhide HC, unhide HC2]
      exact ⟨_, rfl, World.ownsRow_nil _ _ _ _⟩
    · exact below_new _ _
  cases h3 : inB e 1 9999
  · have HC : Hid (goneCode u e = 3) := by rw [Hid, goneCode_eq, h3]; simp
    have HC2 : Hid (goneWords u e = []) := by rw [Hid, goneWords, if_neg (by rw [unhide HC]; decide)]
    go_enter Try.func93, Try.ntmps93
    go_wp2_with (first | (go_at_call 54; refine (l1In_any _ _ _ _).mono ?_; rintro e2 w2 ⟨rfl, rfl⟩) | (go_at_call 117; refine (l3Epoch_any _ _).mono ?_; rintro e2 w2 ⟨rfl, rfl⟩))
    refine bodyPost_ret (v := .agg #[.int .i64 3, .slice none 0 0]) (by simp [results, Try.results93, go_sem]) rfl ⟨?_, ?_⟩
    · rw [unhide HC, unhide HC2]
      exact ⟨_, rfl, World.ownsRow_nil _ _ _ _⟩
    · exact below_new _ _
  have HC : Hid (goneCode u e = 0) := by rw [Hid, goneCode_eq, h2, h3]; simp
  have HC2 : Hid (goneWords u e = [headWordI 3 u 0 e, 0, 0, 0, 0, 0, 0, 0]) := by rw [Hid, goneWords, if_pos (unhide HC)]
  have HOK : Hid (headOk 3 u 0 e = true) := headCode_ok (unhide HC)
  obtain ⟨W, hW, hWz, HB0, HX0⟩ := boxes1 w [.int .i64 0, .slice none 0 0] 41
  go_enter Try.func93, Try.ntmps93
  go_wp2_with (first | (go_at_call 54; refine (l1In_any _ _ _ _).mono ?_; rintro e2 w2 ⟨rfl, rfl⟩) | (go_at_call 117; refine (l3Epoch_any _ _).mono ?_; rintro e2 w2 ⟨rfl, rfl⟩))
  rw [← hW]
  clear hW
  refine (l3Gone_any u e _ (unhide HOK)).mono ?_
  rintro r w1 ⟨⟨v, rfl, ho⟩, hb1⟩
  have HX1 := hide ((unhide HX0).below hb1)
  have HB1 := hide (below_step (unhide HB0) hb1 (by omega))
  have hz1 : w.heap.size < w1.heap.size := by have := hb1.size; omega
  obtain ⟨a1, c1, rfl, -, -, -, -⟩ := intsAt_own ho
  have HO1 := hide ho
  clear hb1 ho HX0 HB0
  have q0 := (unhide HX1).cell 0
  have q1 := (unhide HX1).cell 1
  have f0 := (unhide HX1).frozen 0
  have f1 := (unhide HX1).frozen 1
  simp only [List.getElem?_cons_zero, List.getElem?_cons_succ] at q0 q1
  go_wp2_with fail
  generalize hU : (w1.setCell ⟨w.heap.size, 0, none⟩ (.int .i64 0)).setCell ⟨w.heap.size, 1, none⟩ (.slice a1 8 c1) = U at *
  obtain ⟨HXU, HOU⟩ := store2' (unhide HX1) hU
  clear hU
  have p0 := (unhide HXU).cell 0
  have p1 := (unhide HXU).cell 1
  simp only [List.getElem?_cons_zero, List.getElem?_cons_succ] at p0 p1
  refine bodyPost_ret (v := .agg #[.int .i64 0, .slice a1 8 c1]) (by simp [results, Try.results93, go_sem, p0, p1]) rfl ⟨?_, ?_⟩
  · rw [unhide HC, unhide HC2]
    exact ⟨_, rfl, (unhide HOU).own (own_base (unhide HO1) (fun q hq => by have := (unhide HO1).lt q hq; omega)) (fun q hq => by have := (unhide HO1).lt q hq; omega)⟩
  · exact (unhide HOU).below (unhide HB1) (Nat.le_refl _) (fun q hq hF => by omega)
set_option maxRecDepth 20000 in
set_option maxHeartbeats 2000000 in
theorem specPackNode_any (u : Int) (d : Bool) (p : Int) (nm : ByteArray) (s e : Int) (w : World) (hs : nm.size ≤ maxLen) :
    Calls Try.prog 91 #[.agg #[.int .i64 u, .bool d, .int .i64 p, .string nm, .int .i64 s], .int .i64 e] w fun r w' => WRes w.heap.size w' r (nodePCode u d p nm.data.toList s e) (nodeWords u d p nm.data.toList s e) ∧ Below w.heap.size w w' := by
  obtain ⟨W, hW, hWz, HB0, HN0, HX0⟩ := boxes2 w [.int .i64 u, .bool d, .int .i64 p, .string nm, .int .i64 s] [.int .i64 0, .slice none 0 0] 29 41
  go_enter Try.func91, Try.ntmps91
  go_wp2_with fail
  rw [← hW]
  clear hW
  refine (specNodeFault_any u d p nm s _ hs).mono ?_
  rintro r w1 ⟨rfl, hb1⟩
  have HX1 := hide ((unhide HX0).below hb1)
  have HN1 := hide ((unhide HN0).below hb1)
  have HB1 := hide (below_step (unhide HB0) hb1 (by omega))
  have hz1 : w.heap.size + 1 < w1.heap.size := by have := hb1.size; omega
  clear hb1 HX0 HB0 HN0
  have q0 := (unhide HX1).cell 0
  have q1 := (unhide HX1).cell 1
  have f0 := (unhide HX1).frozen 0
  have f1 := (unhide HX1).frozen 1
  simp only [List.getElem?_cons_zero, List.getElem?_cons_succ] at q0 q1
  generalize hcd : nodeCode u d p nm.data.toList s = cd at *
  by_cases hc : cd = 0
  · subst hc
    obtain ⟨hnn, hnm⟩ := nodeCode_eq0 hcd
    have hu : inB u 1 999 = true := by
      simp only [nodeNums, Bool.and_eq_true] at hnn
      exact hnn.1.1.1.1
    cases h3 : inB e 1 9999
    · have HC : Hid (nodePCode u d p nm.data.toList s e = 3) := by
        rw [Hid, nodePCode, hcd, orI, if_pos rfl, headCode1_eq, h3]; simp
      have HC2 : Hid (nodeWords u d p nm.data.toList s e = []) := by rw [Hid, nodeWords, if_neg (by rw [unhide HC]; decide)]
      clear hcd hnn hnm hu
      go_wp2_with (first | (go_at_call 54; refine (l1In_any _ _ _ _).mono ?_; rintro e2 w2 ⟨rfl, rfl⟩) | (go_at_call 117; refine (l3Epoch_any _ _).mono ?_; rintro e2 w2 ⟨rfl, rfl⟩))
      generalize hU : (w2.setCell ⟨w.heap.size + 1, 0, none⟩ (.int .i64 3)).setCell ⟨w.heap.size + 1, 1, none⟩ (.slice none 0 0) = U at *
      obtain ⟨HXU, HOU⟩ := store2' (unhide HX1) hU
      clear hU
      have p0 := (unhide HXU).cell 0
      have p1 := (unhide HXU).cell 1
      simp only [List.getElem?_cons_zero, List.getElem?_cons_succ] at p0 p1
      refine bodyPost_ret (v := .agg #[.int .i64 3, .slice none 0 0]) (by simp [results, Try.results91, go_sem, p0, p1]) rfl ⟨?_, ?_⟩
      · rw [unhide HC, unhide HC2]
        exact ⟨_, rfl, World.ownsRow_nil _ _ _ _⟩
      · exact (unhide HOU).below (unhide HB1) (Nat.le_refl _) (fun q hq hF => by omega)
    · have HOK : Hid (headCode 1 u 0 e = 0) := by rw [Hid, headCode1_eq, hu, h3]; simp
      have HC : Hid (nodePCode u d p nm.data.toList s e = 0) := by
        rw [Hid, nodePCode, hcd, orI, if_pos rfl, unhide HOK]
      have HC2 : Hid (nodeWords u d p nm.data.toList s e = [headWordI 1 u 0 e, nodeKindI d, p, nameWordL nm.data.toList, s, 0, 0, 0]) := by rw [Hid, nodeWords, if_pos (unhide HC)]
      have HNM := hide hnm
      clear hcd hnn hnm hu
      go_wp2_with (first | (go_at_call 54; refine (l1In_any _ _ _ _).mono ?_; rintro e2 w2 ⟨rfl, rfl⟩) | (go_at_call 117; refine (l3Epoch_any _ _).mono ?_; rintro e2 w2 ⟨rfl, rfl⟩))
      refine (l3Node_any w.heap.size u d p nm s e _ _ (unhide HN1) (headCode_ok (unhide HOK)) (unhide HNM)).mono ?_
      rintro r w2 ⟨⟨v, rfl, ho⟩, hb2⟩
      have HX2 := hide ((unhide HX1).below hb2)
      have HB2 := hide (below_step (unhide HB1) hb2 (by omega))
      have hz2 : w.heap.size + 1 < w2.heap.size := by have := hb2.size; omega
      obtain ⟨a1, c1, rfl, -, -, -, -⟩ := intsAt_own ho
      have HO1 := hide ho
      clear hb2 ho HX1 HB1 HN1 q0 q1 f0 f1
      have q0 := (unhide HX2).cell 0
      have q1 := (unhide HX2).cell 1
      have f0 := (unhide HX2).frozen 0
      have f1 := (unhide HX2).frozen 1
      simp only [List.getElem?_cons_zero, List.getElem?_cons_succ] at q0 q1
      go_wp2_with fail
      generalize hU : (w2.setCell ⟨w.heap.size + 1, 0, none⟩ (.int .i64 0)).setCell ⟨w.heap.size + 1, 1, none⟩ (.slice a1 8 c1) = U at *
      obtain ⟨HXU, HOU⟩ := store2' (unhide HX2) hU
      clear hU
      have p0 := (unhide HXU).cell 0
      have p1 := (unhide HXU).cell 1
      simp only [List.getElem?_cons_zero, List.getElem?_cons_succ] at p0 p1
      refine bodyPost_ret (v := .agg #[.int .i64 0, .slice a1 8 c1]) (by simp [results, Try.results91, go_sem, p0, p1]) rfl ⟨?_, ?_⟩
      · rw [unhide HC, unhide HC2]
        exact ⟨_, rfl, (unhide HOU).own (own_base (unhide HO1) (fun q hq => by have := (unhide HO1).lt q hq; omega)) (fun q hq => by have := (unhide HO1).lt q hq; omega)⟩
      · exact (unhide HOU).below (unhide HB2) (Nat.le_refl _) (fun q hq hF => by omega)
  · have hcb : (cd != 0) = true := by simpa using hc
    have HC : Hid (nodePCode u d p nm.data.toList s e = cd) := by rw [Hid, nodePCode, hcd, orI, if_neg hc]
    have HC2 : Hid (nodeWords u d p nm.data.toList s e = []) := by rw [Hid, nodeWords, if_neg (by rw [unhide HC]; exact hc)]
    clear hc hcd
    go_wp2_with fail
    generalize hU : (w1.setCell ⟨w.heap.size + 1, 0, none⟩ (.int .i64 cd)).setCell ⟨w.heap.size + 1, 1, none⟩ (.slice none 0 0) = U at *
    obtain ⟨HXU, HOU⟩ := store2' (unhide HX1) hU
    clear hU
    have p0 := (unhide HXU).cell 0
    have p1 := (unhide HXU).cell 1
    simp only [List.getElem?_cons_zero, List.getElem?_cons_succ] at p0 p1
    refine bodyPost_ret (v := .agg #[.int .i64 cd, .slice none 0 0]) (by simp [results, Try.results91, go_sem, p0, p1]) rfl ⟨?_, ?_⟩
    · rw [unhide HC, unhide HC2]
      exact ⟨_, rfl, World.ownsRow_nil _ _ _ _⟩
    · exact (unhide HOU).below (unhide HB1) (Nat.le_refl _) (fun q hq hF => by omega)
end Go.Proofs.Ytaadbgebcknfkaa
