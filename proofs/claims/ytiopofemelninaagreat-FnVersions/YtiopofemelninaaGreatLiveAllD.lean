/-
  Several texts in one: SPackWalk, AppInts, SDataWalk, IntsWalk, SReadWalk, SReadNode, SReadBlock, SVersWalk, VersInWalk.
-/
import Derived.Test.YtiopofemelninaaGreatPackMath
import Derived.Test.YtiopofemelninaaGreatDevTo
import Derived.Handy
import Derived.Laws.OwnMore
import Derived.Test.YtiopofemelninaaGreatRowMath
import Derived.Maps.AppendAt
import Derived.WalkKit
import Derived.WalkLawsBesides
import Derived.OwnWalk
import Derived.Test.YtiopofemelninaaGreatCloneWalk
import Derived.Test.YtiopofemelninaaGreatReadWalk
import Derived.Test.YtiopofemelninaaGreatWideBox
import Derived.Test.YtiopofemelninaaGreatImgWalk
/-
  What spec.PackGone, PackNode and PackData answer.
-/
namespace Go.Proofs.YtiopofemelninaaGreat
open Go.RowKit

theorem l3Epoch_any (n : Int) (w : World) :
    Calls Tryz.prog 122 #[.int .i64 n] w fun e w' => e = .returned (.bool (inB n 1 9999)) ∧ w' = w := by
  go_enter Tryz.func122, Tryz.ntmps122
  go_wp2_with fail
  refine (l1In_any n 1 9999 _).mono ?_
  rintro e w1 ⟨rfl, rfl⟩
  generalize hr : inB n 1 9999 = r at *
  have HR := hide hr
  clear hr
  go_wp2_with fail
  go_ret
  exact ⟨ret_bool (unhide HR).symm, rfl⟩
theorem l1HeadWord_bel (b : Nat) (k u i e : Int) (w : World) (hok : headOk k u i e = true)
    (c0 : w.cell? ⟨b, 0, none⟩ = some (.int .i64 k)) (c1 : w.cell? ⟨b, 1, none⟩ = some (.int .i64 u)) (c2 : w.cell? ⟨b, 2, none⟩ = some (.int .i64 i)) (c3 : w.cell? ⟨b, 3, none⟩ = some (.int .i64 e)) :
    Calls Tryz.prog 101 #[.pointer (some ⟨b, 0, none⟩)] w fun r w' => r = .returned (.int .i64 (headWordI k u i e)) ∧ Below w.heap.size w w' := by
  refine (l1HeadWord_any b k u i e w hok c0 c1 c2 c3).mono ?_
  rintro r w1 ⟨rfl, n, rfl⟩
  exact ⟨rfl, below_drewN (Below.refl _ _) n⟩
theorem own_lit8 (w : World) (base : Nat) (hb : base ≤ w.heap.size) (l : List Int) (hl : l.length = 8) : (w.alloc (.cells (nums l).toArray 2)).ownsRow base 2 1 (.slice (some ⟨w.heap.size, 0, none⟩) 8 8) 8 (nums l) := by
  refine ⟨by rw [nums_length, hl], .inr ⟨w.heap.size, 8, (nums l).toArray, rfl, hb, box_new w (nums l) 2, Nat.le_refl _, by simp [maxLen], by simp [nums, hl], ?_⟩⟩
  rw [List.take_of_length_le (by simp [nums, hl])]

/-- A slice of words in a row of its own. -/
def SRes (base : Nat) (w' : World) (r : Ending) (l : List Int) : Prop := ∃ v, r = .returned v ∧ w'.ownsRow base 2 1 v l.length (nums l)

set_option maxHeartbeats 1000000 in
theorem l3Gone_any (u e : Int) (w : World) (hok : headOk 3 u 0 e = true) :
    Calls Tryz.prog 77 #[.int .i64 u, .int .i64 e] w fun r w' => SRes w.heap.size w' r [headWordI 3 u 0 e, 0, 0, 0, 0, 0, 0, 0] ∧ Below w.heap.size w w' := by
  obtain ⟨W, hW, hWz, HB0, HX0⟩ := boxes1 w [.int .i64 3, .int .i64 u, .int .i64 0, .int .i64 e] 40
  have HOK := hide hok
  clear hok
  go_enter Tryz.func77, Tryz.ntmps77
  go_wp2_with fail
  rw [← hW]
  clear hW
  refine (l1HeadWord_bel w.heap.size 3 u 0 e _ (unhide HOK) ((unhide HX0).cell 0) ((unhide HX0).cell 1) ((unhide HX0).cell 2) ((unhide HX0).cell 3)).mono ?_
  rintro r w1 ⟨rfl, hb1⟩
  have HB1 := hide (below_step (unhide HB0) hb1 (by omega))
  have hz1 : w.heap.size ≤ w1.heap.size := by have := hb1.size; omega
  clear hb1 HX0 HB0
  generalize hx : headWordI 3 u 0 e = x at *
  have HX := hide hx
  clear hx
  go_wp2_with fail
  go_ret
  refine ⟨?_, (unhide HB1).alloc hz1 _⟩
  rw [unhide HX]
  exact ⟨_, rfl, own_lit8 w1 w.heap.size hz1 [x, 0, 0, 0, 0, 0, 0, 0] rfl⟩
theorem keepN7 {W0 w' w1 : World} {b b2 : Nat} {v0 v1 v2 v3 v4 v5 v6 : Value} (h3 : b < W0.heap.size) (h4 : b2 < W0.heap.size) (hS : Below W0.heap.size W0 w' ∧ w'.cell? ⟨b, 2, none⟩ = some v0 ∧ w'.cell? ⟨b, 3, none⟩ = some v1 ∧ w'.cell? ⟨b, 4, none⟩ = some v2 ∧ w'.cell? ⟨b2, 0, none⟩ = some v3 ∧ w'.cell? ⟨b2, 1, none⟩ = some v4 ∧ w'.cell? ⟨b2, 2, none⟩ = some v5 ∧ w'.cell? ⟨b2, 3, none⟩ = some v6) (hb : Below w'.heap.size w' w1) :
    Below W0.heap.size W0 w1 ∧ w1.cell? ⟨b, 2, none⟩ = some v0 ∧ w1.cell? ⟨b, 3, none⟩ = some v1 ∧ w1.cell? ⟨b, 4, none⟩ = some v2 ∧ w1.cell? ⟨b2, 0, none⟩ = some v3 ∧ w1.cell? ⟨b2, 1, none⟩ = some v4 ∧ w1.cell? ⟨b2, 2, none⟩ = some v5 ∧ w1.cell? ⟨b2, 3, none⟩ = some v6 := by
  obtain ⟨h, c0, c1, c2, c3, c4, c5, c6⟩ := hS
  have hz := h.size
  have k : b < w'.heap.size := by omega
  have k2 : b2 < w'.heap.size := by omega
  exact ⟨below_step h hb hz, (hb.cell (p := ⟨b, 2, none⟩) k).trans c0, (hb.cell (p := ⟨b, 3, none⟩) k).trans c1, (hb.cell (p := ⟨b, 4, none⟩) k).trans c2, (hb.cell (p := ⟨b2, 0, none⟩) k2).trans c3, (hb.cell (p := ⟨b2, 1, none⟩) k2).trans c4, (hb.cell (p := ⟨b2, 2, none⟩) k2).trans c5, (hb.cell (p := ⟨b2, 3, none⟩) k2).trans c6⟩
set_option maxHeartbeats 2000000 in
theorem l3Node_any (b : Nat) (u : Int) (d : Bool) (p : Int) (nm : ByteArray) (s e : Int) (w : World) (t : TypeId) (hx : Box w b [.int .i64 u, .bool d, .int .i64 p, .string nm, .int .i64 s] t) (hok : headOk 1 u 0 e = true) (hnm : isNameL nm.data.toList = true) :
    Calls Tryz.prog 80 #[.pointer (some ⟨b, 0, none⟩), .int .i64 e] w fun r w' => SRes w.heap.size w' r [headWordI 1 u 0 e, nodeKindI d, p, nameWordL nm.data.toList, s, 0, 0, 0] ∧ Below w.heap.size w w' := by
  obtain ⟨W, hW, hWz, HB0, HX0⟩ := boxes1 w [.int .i64 1, .int .i64 u, .int .i64 0, .int .i64 e] 40
  have HOK := hide hok
  have HNM := hide hnm
  have HXB := hide (hx.below (unhide HB0))
  have q0 := hx.cell 0
  have q1 := hx.cell 1
  simp only [List.getElem?_cons_zero, List.getElem?_cons_succ] at q0 q1
  have zb := hx.lt
  clear hok hnm hx
  have HK : ∃ kd : Int, nodeKindI d = kd := ⟨_, rfl⟩
  obtain ⟨kd, hkd⟩ := HK
  have HKD := hide hkd
  go_enter Tryz.func80, Tryz.ntmps80
  cases d
  all_goals
    cases hkd
    go_wp2_with fail
    rw [← hW]
    clear hW q0 q1
    have q2 := (unhide HXB).cell 2
    have q3 := (unhide HXB).cell 3
    have q4 := (unhide HXB).cell 4
    have t0 := (unhide HX0).cell 0
    have t1 := (unhide HX0).cell 1
    have t2 := (unhide HX0).cell 2
    have t3 := (unhide HX0).cell 3
    simp only [List.getElem?_cons_zero, List.getElem?_cons_succ] at q2 q3 q4 t0 t1 t2 t3
    generalize hbe : w.heap.size = b2 at *
    have HBE := hide hbe
    clear hbe
    have z1 : b < W.heap.size := by omega
    have z2 : b2 < W.heap.size := by omega
    have hD : (fun w' => Below W.heap.size W w' ∧ w'.cell? ⟨b, 2, none⟩ = some (.int .i64 p) ∧ w'.cell? ⟨b, 3, none⟩ = some (.string nm) ∧ w'.cell? ⟨b, 4, none⟩ = some (.int .i64 s) ∧ w'.cell? ⟨b2, 0, none⟩ = some (.int .i64 1) ∧ w'.cell? ⟨b2, 1, none⟩ = some (.int .i64 u) ∧ w'.cell? ⟨b2, 2, none⟩ = some (.int .i64 0) ∧ w'.cell? ⟨b2, 3, none⟩ = some (.int .i64 e)) W.drew := ⟨(Below.refl _ _).drew, q2, q3, q4, t0, t1, t2, t3⟩
    go_region_held3 (fun w' => Below W.heap.size W w' ∧ w'.cell? ⟨b, 2, none⟩ = some (.int .i64 p) ∧ w'.cell? ⟨b, 3, none⟩ = some (.string nm) ∧ w'.cell? ⟨b, 4, none⟩ = some (.int .i64 s) ∧ w'.cell? ⟨b2, 0, none⟩ = some (.int .i64 1) ∧ w'.cell? ⟨b2, 1, none⟩ = some (.int .i64 u) ∧ w'.cell? ⟨b2, 2, none⟩ = some (.int .i64 0) ∧ w'.cell? ⟨b2, 3, none⟩ = some (.int .i64 e)) (first | exact hD | assumption | exact keepN7 z1 z2 (by assumption) (by assumption) | exact keepN7 z1 z2 (by assumption) (below_new _ _))
      (first
        | (go_at_call 101; refine (l1HeadWord_bel b2 1 u 0 e _ (unhide HOK) (by first | exact hD.2.2.2.2.1 | assumption) (by first | exact hD.2.2.2.2.2.1 | assumption) (by first | exact hD.2.2.2.2.2.2.1 | assumption) (by first | exact hD.2.2.2.2.2.2.2 | assumption)).mono ?_; rintro r w5 ⟨rfl, hb5⟩)
        | (go_at_call 102; refine (l1NameWord_any _ _ (unhide HNM)).mono ?_; rintro r w5 ⟨rfl, rfl⟩))
    rename_i hSF
    have z5 : b2 ≤ w5.heap.size := by have := hSF.1.size; simp at this; omega
    have HS := hide hSF.1
    clear hSF hD q2 q3 q4 t0 t1 t2 t3
    go_wp2_with fail
    go_ret
    rw [unhide HBE]
    exact ⟨⟨_, rfl, own_lit8 w5 b2 z5 [headWordI 1 u 0 e, _, p, nameWordL nm.data.toList, s, 0, 0, 0] rfl⟩, below_step (unhide HB0) (unhide HS) (by omega)⟩
set_option maxRecDepth 20000 in
set_option maxHeartbeats 2000000 in
theorem specPackGone_any (u e : Int) (w : World) :
    Calls Tryz.prog 93 #[.int .i64 u, .int .i64 e] w fun r w' => WRes w.heap.size w' r (goneCode u e) (goneWords u e) ∧ Below w.heap.size w w' := by
  cases h2 : inB u 1 999
  · have HC : Hid (goneCode u e = 3) := by rw [Hid, goneCode_eq, h2]; simp
    have HC2 : Hid (goneWords u e = []) := by rw [Hid, goneWords, if_neg (by rw [unhide HC]; decide)]
    go_enter Tryz.func93, Tryz.ntmps93
    go_wp2_with (first | (go_at_call 41; refine (l1In_any _ _ _ _).mono ?_; rintro e2 w2 ⟨rfl, rfl⟩) | (go_at_call 122; refine (l3Epoch_any _ _).mono ?_; rintro e2 w2 ⟨rfl, rfl⟩))
    refine bodyPost_ret (v := .agg #[.int .i64 3, .slice none 0 0]) (by simp [results, Tryz.results93, go_sem]) rfl ⟨?_, ?_⟩
    · rw [unhide HC, unhide HC2]
      exact ⟨_, rfl, World.ownsRow_nil _ _ _ _⟩
    · exact below_new _ _
  cases h3 : inB e 1 9999
  · have HC : Hid (goneCode u e = 3) := by rw [Hid, goneCode_eq, h3]; simp
    have HC2 : Hid (goneWords u e = []) := by rw [Hid, goneWords, if_neg (by rw [unhide HC]; decide)]
    go_enter Tryz.func93, Tryz.ntmps93
    go_wp2_with (first | (go_at_call 41; refine (l1In_any _ _ _ _).mono ?_; rintro e2 w2 ⟨rfl, rfl⟩) | (go_at_call 122; refine (l3Epoch_any _ _).mono ?_; rintro e2 w2 ⟨rfl, rfl⟩))
    refine bodyPost_ret (v := .agg #[.int .i64 3, .slice none 0 0]) (by simp [results, Tryz.results93, go_sem]) rfl ⟨?_, ?_⟩
    · rw [unhide HC, unhide HC2]
      exact ⟨_, rfl, World.ownsRow_nil _ _ _ _⟩
    · exact below_new _ _
  have HC : Hid (goneCode u e = 0) := by rw [Hid, goneCode_eq, h2, h3]; simp
  have HC2 : Hid (goneWords u e = [headWordI 3 u 0 e, 0, 0, 0, 0, 0, 0, 0]) := by rw [Hid, goneWords, if_pos (unhide HC)]
  have HOK : Hid (headOk 3 u 0 e = true) := headCode_ok (unhide HC)
  obtain ⟨W, hW, hWz, HB0, HX0⟩ := boxes1 w [.int .i64 0, .slice none 0 0] 153
  go_enter Tryz.func93, Tryz.ntmps93
  go_wp2_with (first | (go_at_call 41; refine (l1In_any _ _ _ _).mono ?_; rintro e2 w2 ⟨rfl, rfl⟩) | (go_at_call 122; refine (l3Epoch_any _ _).mono ?_; rintro e2 w2 ⟨rfl, rfl⟩))
  rw [← hW]
  clear hW
  refine (l3Gone_any u e _ (unhide HOK)).mono ?_
  rintro r w1 ⟨⟨v, rfl, ho⟩, hb1⟩
  have HX1 := hide ((unhide HX0).below hb1)
  have HB1 := hide (below_step (unhide HB0) hb1 (by omega))
  have hz1 : w.heap.size < w1.heap.size := by have := hb1.size; omega
  obtain ⟨a1, c1, rfl, -, -, -, -⟩ := intsAt_own ho
  have HO1 := hide ho
  clear hb1 ho HX0 HB0
  have q0 := (unhide HX1).cell 0
  have q1 := (unhide HX1).cell 1
  have f0 := (unhide HX1).frozen 0
  have f1 := (unhide HX1).frozen 1
  simp only [List.getElem?_cons_zero, List.getElem?_cons_succ] at q0 q1
  go_wp2_with fail
  generalize hU : (w1.setCell ⟨w.heap.size, 0, none⟩ (.int .i64 0)).setCell ⟨w.heap.size, 1, none⟩ (.slice a1 8 c1) = U at *
  obtain ⟨HXU, HOU⟩ := store2' (unhide HX1) hU
  clear hU
  have p0 := (unhide HXU).cell 0
  have p1 := (unhide HXU).cell 1
  simp only [List.getElem?_cons_zero, List.getElem?_cons_succ] at p0 p1
  refine bodyPost_ret (v := .agg #[.int .i64 0, .slice a1 8 c1]) (by simp [results, Tryz.results93, go_sem, p0, p1]) rfl ⟨?_, ?_⟩
  · rw [unhide HC, unhide HC2]
    exact ⟨_, rfl, (unhide HOU).own (own_base (unhide HO1) (fun q hq => by have := (unhide HO1).lt q hq; omega)) (fun q hq => by have := (unhide HO1).lt q hq; omega)⟩
  · exact (unhide HOU).below (unhide HB1) (Nat.le_refl _) (fun q hq hF => by omega)
set_option maxRecDepth 20000 in
set_option maxHeartbeats 2000000 in
theorem specPackNode_any (u : Int) (d : Bool) (p : Int) (nm : ByteArray) (s e : Int) (w : World) (hs : nm.size ≤ maxLen) :
    Calls Tryz.prog 90 #[.agg #[.int .i64 u, .bool d, .int .i64 p, .string nm, .int .i64 s], .int .i64 e] w fun r w' => WRes w.heap.size w' r (nodePCode u d p nm.data.toList s e) (nodeWords u d p nm.data.toList s e) ∧ Below w.heap.size w w' := by
  obtain ⟨W, hW, hWz, HB0, HN0, HX0⟩ := boxes2 w [.int .i64 u, .bool d, .int .i64 p, .string nm, .int .i64 s] [.int .i64 0, .slice none 0 0] 42 153
  go_enter Tryz.func90, Tryz.ntmps90
  go_wp2_with fail
  rw [← hW]
  clear hW
  refine (specNodeFault_any u d p nm s _ hs).mono ?_
  rintro r w1 ⟨rfl, hb1⟩
  have HX1 := hide ((unhide HX0).below hb1)
  have HN1 := hide ((unhide HN0).below hb1)
  have HB1 := hide (below_step (unhide HB0) hb1 (by omega))
  have hz1 : w.heap.size + 1 < w1.heap.size := by have := hb1.size; omega
  clear hb1 HX0 HB0 HN0
  have q0 := (unhide HX1).cell 0
  have q1 := (unhide HX1).cell 1
  have f0 := (unhide HX1).frozen 0
  have f1 := (unhide HX1).frozen 1
  simp only [List.getElem?_cons_zero, List.getElem?_cons_succ] at q0 q1
  generalize hcd : nodeCode u d p nm.data.toList s = cd at *
  by_cases hc : cd = 0
  · subst hc
    obtain ⟨hnn, hnm⟩ := nodeCode_eq0 hcd
    have hu : inB u 1 999 = true := by
      simp only [nodeNums, Bool.and_eq_true] at hnn
      exact hnn.1.1.1.1
    cases h3 : inB e 1 9999
    · have HC : Hid (nodePCode u d p nm.data.toList s e = 3) := by
        rw [Hid, nodePCode, hcd, orI, if_pos rfl, headCode1_eq, h3]; simp
      have HC2 : Hid (nodeWords u d p nm.data.toList s e = []) := by rw [Hid, nodeWords, if_neg (by rw [unhide HC]; decide)]
      clear hcd hnn hnm hu
      go_wp2_with (first | (go_at_call 41; refine (l1In_any _ _ _ _).mono ?_; rintro e2 w2 ⟨rfl, rfl⟩) | (go_at_call 122; refine (l3Epoch_any _ _).mono ?_; rintro e2 w2 ⟨rfl, rfl⟩))
      generalize hU : (w2.setCell ⟨w.heap.size + 1, 0, none⟩ (.int .i64 3)).setCell ⟨w.heap.size + 1, 1, none⟩ (.slice none 0 0) = U at *
      obtain ⟨HXU, HOU⟩ := store2' (unhide HX1) hU
      clear hU
      have p0 := (unhide HXU).cell 0
      have p1 := (unhide HXU).cell 1
      simp only [List.getElem?_cons_zero, List.getElem?_cons_succ] at p0 p1
      refine bodyPost_ret (v := .agg #[.int .i64 3, .slice none 0 0]) (by simp [results, Tryz.results90, go_sem, p0, p1]) rfl ⟨?_, ?_⟩
      · rw [unhide HC, unhide HC2]
        exact ⟨_, rfl, World.ownsRow_nil _ _ _ _⟩
      · exact (unhide HOU).below (unhide HB1) (Nat.le_refl _) (fun q hq hF => by omega)
    · have HOK : Hid (headCode 1 u 0 e = 0) := by rw [Hid, headCode1_eq, hu, h3]; simp
      have HC : Hid (nodePCode u d p nm.data.toList s e = 0) := by
        rw [Hid, nodePCode, hcd, orI, if_pos rfl, unhide HOK]
      have HC2 : Hid (nodeWords u d p nm.data.toList s e = [headWordI 1 u 0 e, nodeKindI d, p, nameWordL nm.data.toList, s, 0, 0, 0]) := by rw [Hid, nodeWords, if_pos (unhide HC)]
      have HNM := hide hnm
      clear hcd hnn hnm hu
      go_wp2_with (first | (go_at_call 41; refine (l1In_any _ _ _ _).mono ?_; rintro e2 w2 ⟨rfl, rfl⟩) | (go_at_call 122; refine (l3Epoch_any _ _).mono ?_; rintro e2 w2 ⟨rfl, rfl⟩))
      refine (l3Node_any w.heap.size u d p nm s e _ _ (unhide HN1) (headCode_ok (unhide HOK)) (unhide HNM)).mono ?_
      rintro r w2 ⟨⟨v, rfl, ho⟩, hb2⟩
      have HX2 := hide ((unhide HX1).below hb2)
      have HB2 := hide (below_step (unhide HB1) hb2 (by omega))
      have hz2 : w.heap.size + 1 < w2.heap.size := by have := hb2.size; omega
      obtain ⟨a1, c1, rfl, -, -, -, -⟩ := intsAt_own ho
      have HO1 := hide ho
      clear hb2 ho HX1 HB1 HN1 q0 q1 f0 f1
      have q0 := (unhide HX2).cell 0
      have q1 := (unhide HX2).cell 1
      have f0 := (unhide HX2).frozen 0
      have f1 := (unhide HX2).frozen 1
      simp only [List.getElem?_cons_zero, List.getElem?_cons_succ] at q0 q1
      go_wp2_with fail
      generalize hU : (w2.setCell ⟨w.heap.size + 1, 0, none⟩ (.int .i64 0)).setCell ⟨w.heap.size + 1, 1, none⟩ (.slice a1 8 c1) = U at *
      obtain ⟨HXU, HOU⟩ := store2' (unhide HX2) hU
      clear hU
      have p0 := (unhide HXU).cell 0
      have p1 := (unhide HXU).cell 1
      simp only [List.getElem?_cons_zero, List.getElem?_cons_succ] at p0 p1
      refine bodyPost_ret (v := .agg #[.int .i64 0, .slice a1 8 c1]) (by simp [results, Tryz.results90, go_sem, p0, p1]) rfl ⟨?_, ?_⟩
      · rw [unhide HC, unhide HC2]
        exact ⟨_, rfl, (unhide HOU).own (own_base (unhide HO1) (fun q hq => by have := (unhide HO1).lt q hq; omega)) (fun q hq => by have := (unhide HO1).lt q hq; omega)⟩
      · exact (unhide HOU).below (unhide HB2) (Nat.le_refl _) (fun q hq hF => by omega)
  · have hcb : (cd != 0) = true := by simpa using hc
    have HC : Hid (nodePCode u d p nm.data.toList s e = cd) := by rw [Hid, nodePCode, hcd, orI, if_neg hc]
    have HC2 : Hid (nodeWords u d p nm.data.toList s e = []) := by rw [Hid, nodeWords, if_neg (by rw [unhide HC]; exact hc)]
    clear hc hcd
    go_wp2_with fail
    generalize hU : (w1.setCell ⟨w.heap.size + 1, 0, none⟩ (.int .i64 cd)).setCell ⟨w.heap.size + 1, 1, none⟩ (.slice none 0 0) = U at *
    obtain ⟨HXU, HOU⟩ := store2' (unhide HX1) hU
    clear hU
    have p0 := (unhide HXU).cell 0
    have p1 := (unhide HXU).cell 1
    simp only [List.getElem?_cons_zero, List.getElem?_cons_succ] at p0 p1
    refine bodyPost_ret (v := .agg #[.int .i64 cd, .slice none 0 0]) (by simp [results, Tryz.results90, go_sem, p0, p1]) rfl ⟨?_, ?_⟩
    · rw [unhide HC, unhide HC2]
      exact ⟨_, rfl, World.ownsRow_nil _ _ _ _⟩
    · exact (unhide HOU).below (unhide HB1) (Nat.le_refl _) (fun q hq hF => by omega)
end Go.Proofs.YtiopofemelninaaGreat
/-
  append of a slice of numbers to a row of our own.
-/
namespace Go.Proofs.YtiopofemelninaaGreat
open Go.RowKit
open Go.WideShapes (add_plain)

theorem run_append_nothing1 {P : Program} {w : World} (base : Nat) (t ty e : TypeId) (i : TypeInfo) (size : Nat) (ht : P.underlying t = some (.slice e)) (hi : P.info? e = some i) (v : Value) (n c : Nat) (xs : List Value) (hown : w.ownsRow base e size v n xs) :
    (Builtin.append_ #[t, t] ty #[v, .slice none 0 c]).run P w = .ok v w := by
  rcases hown.2 with ⟨rfl, rfl⟩ | ⟨g, cap, cur, rfl, _, _, hnc, _⟩
  · simp [Builtin.append_, run_underlying ht, sizeOf, typeInfo, hi, Builtin.lenOf, Builtin.firstCells]
  · simp [Builtin.append_, run_underlying ht, sizeOf, typeInfo, hi, Builtin.lenOf, Builtin.firstCells, hnc, storeCells]
theorem nums_one_cell (l : List Int) : ∀ u ∈ nums l, u.oneCell' = true := by
  intro u hu
  simp only [nums, List.mem_map] at hu
  obtain ⟨x, _, rfl⟩ := hu
  rfl
theorem ints_cells {w : World} {ad : Addr} {l : List Int} (h : IntsAt w (some ad) l) {j : Nat} {u : Value} (hj : (nums l)[j]? = some u) : w.cell? (ad.add j) = some u := by
  have hl : j < l.length := by
    have := (List.getElem?_eq_some_iff.1 hj).1
    rwa [nums_length] at this
  obtain ⟨b, o, e, _, hc⟩ := h.at hl
  injection e with e
  subst e
  rw [add_plain, hc j hl, ← hj, nums_at hl]
theorem run_append_ints {P : Program} (w : World) (base : Nat) (t ty e : TypeId) (i : TypeInfo) (z : Value) (ht : P.underlying t = some (.slice e)) (hi : P.info? e = some i) (hz : i.zero = some z) (hsize : i.size = 1) (hby : i.bytes = 8) (hzs : z.cells.size = 1)
    (v : Value) (n : Nat) (xs : List Value) (hown : w.ownsRow base e 1 v n xs) (a : Option Addr) (m c : Nat) (l : List Int) (hm : m = l.length) (hp : IntsAt w a l) (hn : n + l.length ≤ 100000000) (hbase : base ≤ w.heap.size) :
    ∃ v' w', (Builtin.append_ #[t, t] ty #[v, .slice a m c]).run P w = .ok v' w' ∧ w'.ownsRow base e 1 v' (n + l.length) (xs ++ nums l) ∧ w.grownBy w' v.ownBlock ∧ (v'.ownBlock = v.ownBlock ∨ v'.ownBlock = some w.heap.size) := by
  subst hm
  cases a with
  | none =>
    have hl : l = [] := by
      rcases hp with h | ⟨b, o, h, _⟩
      · exact h
      · cases h
    subst hl
    exact ⟨v, w, run_append_nothing1 base t ty e i 1 ht hi v n c xs hown, by simpa [nums] using hown, ⟨rfl, rfl, rfl, Nat.le_refl _, fun _ _ _ => rfl⟩, .inl rfl⟩
  | some ad =>
    obtain ⟨v', w', hr, h2, h3, -, h5⟩ := run_append_own_at (P := P) w base t ty e i z 1 8 ht hi hz hsize hby hzs (by decide) v n xs hown ad l.length c (nums l) (by rw [nums_length]; omega) (fun j u hj => ints_cells hp hj) (nums_one_cell l) (by unfold maxLen; omega) (by omega) hbase
    exact ⟨v', w', hr, h2, h3, h5⟩
theorem wpList_append_ints {P : Program} (w : World) {ops : Array Oper} {rest : List Oper} {o : Oper} {a : Act} {Q : Exit → Act → World → Prop} (hgd : o.guard = none) (s x : Operand) (t : TypeId)
    (ho : o.op = .call { callee := .builtin .append, args := #[s, x], argTypes := #[t, t] })
    (base : Nat) (e : TypeId) (i : TypeInfo) (z : Value) (ht : P.underlying t = some (.slice e)) (hi : P.info? e = some i) (hz : i.zero = some z) (hsize : i.size = 1) (hby : i.bytes = 8) (hzs : z.cells.size = 1)
    (v : Value) (n : Nat) (xs : List Value) (hs : a.eval s = v) (hown : w.ownsRow base e 1 v n xs) (ad : Option Addr) (m c : Nat) (l : List Int) (hm : m = l.length) (hx : a.eval x = .slice ad m c) (hp : IntsAt w ad l) (hn : n + l.length ≤ 100000000) (hbase : base ≤ w.heap.size)
    (h : ∀ v' w', w'.ownsRow base e 1 v' (n + l.length) (xs ++ nums l) → w.grownBy w' v.ownBlock → (v'.ownBlock = v.ownBlock ∨ v'.ownBlock = some w.heap.size) → wpList P ops Q rest (a.put o.dst v') w') : wpList P ops Q (o :: rest) a w := by
  refine wpList_plain hgd fun K hK => ?_
  obtain ⟨v', w', hr, h2, h3, h4⟩ := run_append_ints w base t o.type e i z ht hi hz hsize hby hzs v n xs hown ad m c l hm hp hn hbase
  unfold Oper.wp execOp
  simp only [ho, resolve, invoke, builtin, Sem.run_bind, Sem.run_pure, Result.andThen_ok, List.map_toArray, List.map_cons, List.map_nil, hs, hx, hr]
  exact hK _ _ (h v' w' h2 h3 h4)
end Go.Proofs.YtiopofemelninaaGreat
/-
  What spec.PackData answers.
-/
namespace Go.Proofs.YtiopofemelninaaGreat
open Go.RowKit

theorem own_lit1 (w : World) (base : Nat) (hb : base ≤ w.heap.size) (x : Int) : (w.alloc (.cells #[.int .i64 x] 2)).ownsRow base 2 1 (.slice (some ⟨w.heap.size, 0, none⟩) 1 1) 1 (nums [x]) :=
  ⟨rfl, .inr ⟨w.heap.size, 1, #[.int .i64 x], rfl, hb, box_new w [.int .i64 x] 2, Nat.le_refl _, by simp [maxLen], rfl, rfl⟩⟩
theorem ints_three_new (w : World) : IntsAt (w.alloc (.cells #[.int .i64 0, .int .i64 0, .int .i64 0] 2)) (some ⟨w.heap.size, 0, none⟩) [0, 0, 0] := by
  have hb : Box (w.alloc (.cells #[.int .i64 0, .int .i64 0, .int .i64 0] 2)) w.heap.size [.int .i64 0, .int .i64 0, .int .i64 0] 2 := box_new w [.int .i64 0, .int .i64 0, .int .i64 0] 2
  refine .inr ⟨w.heap.size, 0, rfl, hb.lt, fun i hi => ?_⟩
  rw [Nat.zero_add, hb.cell i]
  match i, hi with
  | 0, _ => rfl
  | 1, _ => rfl
  | 2, _ => rfl

set_option maxHeartbeats 2000000 in
theorem l3Data_any (u i : Int) (a : Option Addr) (c : Nat) (l : List Int) (e : Int) (w : World) (h : IntsAt w a l) (hl : l.length ≤ 1048576) (hok : headOk 2 u i e = true) :
    Calls Tryz.prog 78 #[.int .i64 u, .int .i64 i, .slice a l.length c, .int .i64 e] w fun r w' => SRes w.heap.size w' r (headWordI 2 u i e :: (l ++ [0, 0, 0])) ∧ Below w.heap.size w w' := by
  obtain ⟨i0, hi, hz0, hz1, hz2⟩ := info_parts infoInt64
  obtain ⟨W, hW, hWz, HB0, HX0⟩ := boxes1 w [.int .i64 2, .int .i64 u, .int .i64 i, .int .i64 e] 40
  have HOK := hide hok
  have H := hide h
  clear hok h
  go_enter Tryz.func78, Tryz.ntmps78
  go_wp2_with fail
  rw [← hW]
  clear hW
  refine (l1HeadWord_bel w.heap.size 2 u i e _ (unhide HOK) ((unhide HX0).cell 0) ((unhide HX0).cell 1) ((unhide HX0).cell 2) ((unhide HX0).cell 3)).mono ?_
  rintro r w1 ⟨rfl, hb1⟩
  have HB1 := hide (below_step (unhide HB0) hb1 (by omega))
  have zw1 : w.heap.size ≤ w1.heap.size := by have := hb1.size; omega
  clear hb1 HX0 HB0
  generalize hx : headWordI 2 u i e = x at *
  have HX := hide hx
  clear hx
  have O2 := hide (own_lit1 w1 w.heap.size zw1 x)
  have hb2 : Below w1.heap.size w1 (w1.alloc (.cells #[.int .i64 x] 2)) := below_new _ _
  have B2 := hide (below_step (unhide HB1) hb2 zw1)
  have I2 := hide ((unhide H).below (unhide B2))
  clear hb2
  go_wp2_with (first
    | (at_builtin; refine wpList_append_ints _ rfl _ _ 24 rfl w.heap.size 2 i0 (.int .i64 0) Tryz.underlying24 hi hz0 hz1 hz2 rfl _ 1 (nums [x]) rfl (unhide O2) a l.length c l rfl rfl (unhide I2) (by omega) (by simp; omega) ?_; intro v3 w3 hown hgrow hblk; have O3 := hide hown; have B3 := hide ((unhide B2).grown hgrow (by simp; omega) (fun q hq => ((unhide O2).lt q hq).1)); have z3 : w.heap.size ≤ w3.heap.size := (unhide B3).size; clear hown hgrow hblk)
    | (at_builtin; refine wpList_append_ints _ rfl _ _ 24 rfl w.heap.size 2 i0 (.int .i64 0) Tryz.underlying24 hi hz0 hz1 hz2 rfl _ (1 + l.length) (nums [x] ++ nums l) rfl ((unhide O3).alloc _) _ 3 3 [0, 0, 0] rfl rfl (ints_three_new _) (by simp; omega) (by simp; omega) ?_; intro v4 w4 hown hgrow hblk; have O4 := hide hown; have B4 := hide (((unhide B3).alloc z3 _).grown hgrow (by simp; omega) (fun q hq => ((unhide O3).lt q hq).1)); clear hown hgrow hblk))
  go_ret
  refine ⟨?_, unhide B4⟩
  rw [unhide HX]
  have hl4 : 1 + l.length + [(0 : Int), 0, 0].length = (x :: (l ++ [0, 0, 0])).length := by simp; omega
  have hv4 : nums [x] ++ nums l ++ nums [0, 0, 0] = nums (x :: (l ++ [0, 0, 0])) := by simp [nums]
  have h4 := unhide O4
  rw [hl4, hv4] at h4
  exact ⟨_, rfl, h4⟩
set_option maxRecDepth 20000 in
set_option maxHeartbeats 2000000 in
theorem specPackData_any (u i : Int) (a : Option Addr) (c : Nat) (l : List Int) (e : Int) (w : World) (h : IntsAt w a l) (hl : l.length ≤ 1048576) :
    Calls Tryz.prog 92 #[.int .i64 u, .int .i64 i, .slice a l.length c, .int .i64 e] w fun r w' => WRes w.heap.size w' r (dataCode u i l e) (dataWords u i l e) ∧ Below w.heap.size w w' := by
  cases h2 : inB u 1 999
  · have HC : Hid (dataCode u i l e = 3) := by
      have : headCode 2 u i e = 3 := by rw [headCode2_eq, h2]; simp
      rw [Hid, dataCode, this]; rfl
    have HC2 : Hid (dataWords u i l e = []) := by rw [Hid, dataWords, if_neg (by rw [unhide HC]; decide)]
    go_enter Tryz.func92, Tryz.ntmps92
    go_wp2_with (first | (go_at_call 41; refine (l1In_any _ _ _ _).mono ?_; rintro e2 w2 ⟨rfl, rfl⟩) | (go_at_call 122; refine (l3Epoch_any _ _).mono ?_; rintro e2 w2 ⟨rfl, rfl⟩))
    refine bodyPost_ret (v := .agg #[.int .i64 3, .slice none 0 0]) (by simp [results, Tryz.results92, go_sem]) rfl ⟨?_, ?_⟩
    · rw [unhide HC, unhide HC2]
      exact ⟨_, rfl, World.ownsRow_nil _ _ _ _⟩
    · exact below_new _ _
  cases h3 : inB i 0 3
  · have HC : Hid (dataCode u i l e = 3) := by
      have : headCode 2 u i e = 3 := by rw [headCode2_eq, h3]; simp
      rw [Hid, dataCode, this]; rfl
    have HC2 : Hid (dataWords u i l e = []) := by rw [Hid, dataWords, if_neg (by rw [unhide HC]; decide)]
    go_enter Tryz.func92, Tryz.ntmps92
    go_wp2_with (first | (go_at_call 41; refine (l1In_any _ _ _ _).mono ?_; rintro e2 w2 ⟨rfl, rfl⟩) | (go_at_call 122; refine (l3Epoch_any _ _).mono ?_; rintro e2 w2 ⟨rfl, rfl⟩))
    refine bodyPost_ret (v := .agg #[.int .i64 3, .slice none 0 0]) (by simp [results, Tryz.results92, go_sem]) rfl ⟨?_, ?_⟩
    · rw [unhide HC, unhide HC2]
      exact ⟨_, rfl, World.ownsRow_nil _ _ _ _⟩
    · exact below_new _ _
  cases h4 : inB e 1 9999
  · have HC : Hid (dataCode u i l e = 3) := by
      have : headCode 2 u i e = 3 := by rw [headCode2_eq, h4]; simp
      rw [Hid, dataCode, this]; rfl
    have HC2 : Hid (dataWords u i l e = []) := by rw [Hid, dataWords, if_neg (by rw [unhide HC]; decide)]
    go_enter Tryz.func92, Tryz.ntmps92
    go_wp2_with (first | (go_at_call 41; refine (l1In_any _ _ _ _).mono ?_; rintro e2 w2 ⟨rfl, rfl⟩) | (go_at_call 122; refine (l3Epoch_any _ _).mono ?_; rintro e2 w2 ⟨rfl, rfl⟩))
    refine bodyPost_ret (v := .agg #[.int .i64 3, .slice none 0 0]) (by simp [results, Tryz.results92, go_sem]) rfl ⟨?_, ?_⟩
    · rw [unhide HC, unhide HC2]
      exact ⟨_, rfl, World.ownsRow_nil _ _ _ _⟩
    · exact below_new _ _
  have HOK : Hid (headCode 2 u i e = 0) := by rw [Hid, headCode2_eq, h2, h3, h4]; simp
  obtain ⟨W, hW, hWz, HB0, HX0⟩ := boxes1 w [.int .i64 0, .slice none 0 0] 153
  have H := hide h
  clear h
  go_enter Tryz.func92, Tryz.ntmps92
  go_wp2_with (first | (go_at_call 41; refine (l1In_any _ _ _ _).mono ?_; rintro e2 w2 ⟨rfl, rfl⟩) | (go_at_call 122; refine (l3Epoch_any _ _).mono ?_; rintro e2 w2 ⟨rfl, rfl⟩))
  rw [← hW]
  clear hW
  refine (specNumbersFault_any a c l _ ((unhide H).below (unhide HB0)) hl).mono ?_
  rintro r w1 ⟨rfl, rfl⟩
  have I1 := hide ((unhide H).below (unhide HB0))
  have q0 := (unhide HX0).cell 0
  have q1 := (unhide HX0).cell 1
  have f0 := (unhide HX0).frozen 0
  have f1 := (unhide HX0).frozen 1
  simp only [List.getElem?_cons_zero, List.getElem?_cons_succ] at q0 q1
  generalize hcd : numsCode l = cd at *
  have HC : Hid (dataCode u i l e = cd) := by rw [Hid, dataCode, unhide HOK, orI, if_pos rfl, hcd]
  by_cases hc : cd = 0
  · subst hc
    have HC2 : Hid (dataWords u i l e = headWordI 2 u i e :: (l ++ [0, 0, 0])) := by rw [Hid, dataWords, if_pos (unhide HC)]
    clear hcd
    go_wp2_with fail
    refine (l3Data_any u i a c l e _ (unhide I1) hl (headCode_ok (unhide HOK))).mono ?_
    rintro r w2 ⟨⟨v, rfl, ho⟩, hb2⟩
    have HX2 := hide ((unhide HX0).below hb2)
    have HB2 := hide (below_step (unhide HB0) hb2 (by omega))
    have zz2 : w.heap.size < w2.heap.size := by have := hb2.size; omega
    generalize hwd : headWordI 2 u i e :: (l ++ [0, 0, 0]) = wd at *
    clear hwd
    obtain ⟨a1, c1, rfl, -, -, -, -⟩ := intsAt_own ho
    have HO1 := hide ho
    clear hb2 ho HX0 HB0 I1 q0 q1 f0 f1
    have q0 := (unhide HX2).cell 0
    have q1 := (unhide HX2).cell 1
    have f0 := (unhide HX2).frozen 0
    have f1 := (unhide HX2).frozen 1
    simp only [List.getElem?_cons_zero, List.getElem?_cons_succ] at q0 q1
    go_wp2_with fail
    generalize hU : (w2.setCell ⟨w.heap.size, 0, none⟩ (.int .i64 0)).setCell ⟨w.heap.size, 1, none⟩ (.slice a1 wd.length c1) = U at *
    obtain ⟨HXU, HOU⟩ := store2' (unhide HX2) hU
    clear hU
    have p0 := (unhide HXU).cell 0
    have p1 := (unhide HXU).cell 1
    simp only [List.getElem?_cons_zero, List.getElem?_cons_succ] at p0 p1
    refine bodyPost_ret (v := .agg #[.int .i64 0, .slice a1 wd.length c1]) (by simp [results, Tryz.results92, go_sem, p0, p1]) rfl ⟨?_, ?_⟩
    · rw [unhide HC, unhide HC2]
      exact ⟨_, rfl, (unhide HOU).own (own_base (unhide HO1) (fun q hq => by have := (unhide HO1).lt q hq; omega)) (fun q hq => by have := (unhide HO1).lt q hq; omega)⟩
    · exact (unhide HOU).below (unhide HB2) (Nat.le_refl _) (fun q hq hF => by omega)
  · have hcb : (cd != 0) = true := by simpa using hc
    have HC2 : Hid (dataWords u i l e = []) := by rw [Hid, dataWords, if_neg (by rw [unhide HC]; exact hc)]
    clear hc hcd I1
    go_wp2_with fail
    generalize hU : (w1.setCell ⟨w.heap.size, 0, none⟩ (.int .i64 cd)).setCell ⟨w.heap.size, 1, none⟩ (.slice none 0 0) = U at *
    obtain ⟨HXU, HOU⟩ := store2' (unhide HX0) hU
    clear hU
    have p0 := (unhide HXU).cell 0
    have p1 := (unhide HXU).cell 1
    simp only [List.getElem?_cons_zero, List.getElem?_cons_succ] at p0 p1
    refine bodyPost_ret (v := .agg #[.int .i64 cd, .slice none 0 0]) (by simp [results, Tryz.results92, go_sem, p0, p1]) rfl ⟨?_, ?_⟩
    · rw [unhide HC, unhide HC2]
      exact ⟨_, rfl, World.ownsRow_nil _ _ _ _⟩
    · exact (unhide HOU).below (unhide HB0) (Nat.le_refl _) (fun q hq hF => by omega)
end Go.Proofs.YtiopofemelninaaGreat
/-
  What spec.l1Ints answers: a copy.
-/
namespace Go.Proofs.YtiopofemelninaaGreat
open Go.RowKit

set_option maxHeartbeats 1000000 in
theorem l1Ints_any (a : Option Addr) (c : Nat) (l : List Int) (w : World) (h : IntsAt w a l) (h0 : 0 < l.length) (hn : l.length ≤ 1048576) :
    Calls Tryz.prog 91 #[.slice a l.length c] w fun e w' => (∃ v, e = .returned v ∧ w'.ownsRow w.heap.size 2 1 v l.length (nums l)) ∧ Below w.heap.size w w' := by
  obtain ⟨b, o, rfl, hb, hc⟩ := h.at h0
  obtain ⟨i0, hi, hz0, hz1, hz2⟩ := info_parts infoInt64
  have HC := hide hc
  clear h hc
  go_enter Tryz.func91, Tryz.ntmps91
  go_wp2_with (at_builtin; refine wpList_append_own_at _ rfl _ _ 24 rfl w.heap.size 2 i0 (.int .i64 0) 1 8 Tryz.underlying24 hi hz0 hz1 hz2 rfl (by decide) (.slice (some ⟨w.heap.size, 0, none⟩) 0 0) 0 [] rfl (World.ownsRow_made w #[] 0 (Nat.le_refl _) (by unfold maxLen; omega) rfl) ⟨b, o, none⟩ l.length c (nums l) rfl (by rw [nums_length]; omega) (fun j u hj => nums_cell (unhide HC) hb hj) (nums_oneCell l) (by unfold maxLen; omega) (by omega) (by simp) ?_; intro v' w1 hown hgrow hnil hloc)
  have HO := hide hown
  have HG := hide (((Below.refl _ w).alloc (Nat.le_refl _) _).grown hgrow (by simp) (by intro k hk; simp [Value.ownBlock] at hk; omega))
  clear hown hgrow hnil hloc
  go_wp2
  go_ret
  exact ⟨⟨v', rfl, by simpa using unhide HO⟩, unhide HG⟩
end Go.Proofs.YtiopofemelninaaGreat
/-
  What spec.ReadBlock answers.
-/
namespace Go.Proofs.YtiopofemelninaaGreat
open Go.RowKit
set_option linter.unusedVariables false

def QS (W : World) (r s0 s1 s2 s3 s4 : Nat) (b0 b1 b2 b3 b4 o0 o1 o2 o3 o4 : Nat) (V0 V1 V2 V3 V4 : Value) (w' : World) : Prop := Out (fun q => q = r) W w' ∧ w'.cell? ⟨b0, o0, none⟩ = some (V0) ∧ w'.cell? ⟨b1, o1, none⟩ = some (V1) ∧ w'.cell? ⟨b2, o2, none⟩ = some (V2) ∧ w'.cell? ⟨b3, o3, none⟩ = some (V3) ∧ w'.cell? ⟨b4, o4, none⟩ = some (V4) ∧ w'.cell? ⟨r, s0, none⟩ = some (cv w' r (s0)) ∧ w'.cell? ⟨r, s1, none⟩ = some (cv w' r (s1)) ∧ w'.cell? ⟨r, s2, none⟩ = some (cv w' r (s2)) ∧ w'.cell? ⟨r, s3, none⟩ = some (cv w' r (s3)) ∧ w'.cell? ⟨r, s4, none⟩ = some (cv w' r (s4)) ∧ w'.frozen? ⟨r, s0, none⟩ = false ∧ w'.frozen? ⟨r, s1, none⟩ = false ∧ w'.frozen? ⟨r, s2, none⟩ = false ∧ w'.frozen? ⟨r, s3, none⟩ = false ∧ w'.frozen? ⟨r, s4, none⟩ = false ∧ r < w'.heap.size
theorem QS.one {W w' : World} {r b0 b1 b2 b3 b4 o0 o1 o2 o3 o4 s0 s1 s2 s3 s4 : Nat} {V0 V1 V2 V3 V4 : Value} (k0 : b0 < W.heap.size ∧ b0 ≠ r) (k1 : b1 < W.heap.size ∧ b1 ≠ r) (k2 : b2 < W.heap.size ∧ b2 ≠ r) (k3 : b3 < W.heap.size ∧ b3 ≠ r) (k4 : b4 < W.heap.size ∧ b4 ≠ r) (h : QS W r s0 s1 s2 s3 s4 b0 b1 b2 b3 b4 o0 o1 o2 o3 o4 V0 V1 V2 V3 V4 w') (j : Nat) (v : Value) : QS W r s0 s1 s2 s3 s4 b0 b1 b2 b3 b4 o0 o1 o2 o3 o4 V0 V1 V2 V3 V4 (w'.setCell ⟨r, j, none⟩ v) := by
  obtain ⟨h, c0, c1, c2, c3, c4, d0, d1, d2, d3, d4, f0, f1, f2, f3, f4, hr⟩ := h
  have hz := h.size
  have hc : ∀ b i, b ≠ r → (w'.setCell ⟨r, j, none⟩ v).cell? ⟨b, i, none⟩ = w'.cell? ⟨b, i, none⟩ := fun b i hn => World.cell?_of_block (a := ⟨b, i, none⟩) (Below.heap_setCell w' ⟨r, j, none⟩ v b hn)
  have hd : ∀ i x, w'.cell? ⟨r, i, none⟩ = some x → (w'.setCell ⟨r, j, none⟩ v).cell? ⟨r, i, none⟩ = some (cv (w'.setCell ⟨r, j, none⟩ v) r i) := fun i x hx => by
    by_cases e : (⟨r, j, none⟩ : Addr) = ⟨r, i, none⟩
    · rw [← e] at hx ⊢
      exact cv_some' e (World.cell?_setCell_same _ _ _ hx)
    · exact cv_some (by rw [World.cell?_setCell_other _ _ _ _ e]; exact hx)
  refine ⟨h.setCell (p := ⟨r, j, none⟩) (.inl rfl) v, (hc _ _ k0.2).trans c0, (hc _ _ k1.2).trans c1, (hc _ _ k2.2).trans c2, (hc _ _ k3.2).trans c3, (hc _ _ k4.2).trans c4, hd _ _ d0, hd _ _ d1, hd _ _ d2, hd _ _ d3, hd _ _ d4, by rw [World.frozen?_setCell]; exact f0, by rw [World.frozen?_setCell]; exact f1, by rw [World.frozen?_setCell]; exact f2, by rw [World.frozen?_setCell]; exact f3, by rw [World.frozen?_setCell]; exact f4, by simpa [World.setCell] using hr⟩
theorem QS_below {W w' : World} {r b0 b1 b2 b3 b4 o0 o1 o2 o3 o4 s0 s1 s2 s3 s4 : Nat} {V0 V1 V2 V3 V4 : Value} {w1 : World} (k0 : b0 < W.heap.size ∧ b0 ≠ r) (k1 : b1 < W.heap.size ∧ b1 ≠ r) (k2 : b2 < W.heap.size ∧ b2 ≠ r) (k3 : b3 < W.heap.size ∧ b3 ≠ r) (k4 : b4 < W.heap.size ∧ b4 ≠ r) (h : Out (fun q => q = r) W w' ∧ w'.cell? ⟨b0, o0, none⟩ = some (V0) ∧ w'.cell? ⟨b1, o1, none⟩ = some (V1) ∧ w'.cell? ⟨b2, o2, none⟩ = some (V2) ∧ w'.cell? ⟨b3, o3, none⟩ = some (V3) ∧ w'.cell? ⟨b4, o4, none⟩ = some (V4) ∧ w'.cell? ⟨r, s0, none⟩ = some (cv w' r (s0)) ∧ w'.cell? ⟨r, s1, none⟩ = some (cv w' r (s1)) ∧ w'.cell? ⟨r, s2, none⟩ = some (cv w' r (s2)) ∧ w'.cell? ⟨r, s3, none⟩ = some (cv w' r (s3)) ∧ w'.cell? ⟨r, s4, none⟩ = some (cv w' r (s4)) ∧ w'.frozen? ⟨r, s0, none⟩ = false ∧ w'.frozen? ⟨r, s1, none⟩ = false ∧ w'.frozen? ⟨r, s2, none⟩ = false ∧ w'.frozen? ⟨r, s3, none⟩ = false ∧ w'.frozen? ⟨r, s4, none⟩ = false ∧ r < w'.heap.size) (hb : Below w'.heap.size w' w1) : Out (fun q => q = r) W w1 ∧ w1.cell? ⟨b0, o0, none⟩ = some (V0) ∧ w1.cell? ⟨b1, o1, none⟩ = some (V1) ∧ w1.cell? ⟨b2, o2, none⟩ = some (V2) ∧ w1.cell? ⟨b3, o3, none⟩ = some (V3) ∧ w1.cell? ⟨b4, o4, none⟩ = some (V4) ∧ w1.cell? ⟨r, s0, none⟩ = some (cv w1 r (s0)) ∧ w1.cell? ⟨r, s1, none⟩ = some (cv w1 r (s1)) ∧ w1.cell? ⟨r, s2, none⟩ = some (cv w1 r (s2)) ∧ w1.cell? ⟨r, s3, none⟩ = some (cv w1 r (s3)) ∧ w1.cell? ⟨r, s4, none⟩ = some (cv w1 r (s4)) ∧ w1.frozen? ⟨r, s0, none⟩ = false ∧ w1.frozen? ⟨r, s1, none⟩ = false ∧ w1.frozen? ⟨r, s2, none⟩ = false ∧ w1.frozen? ⟨r, s3, none⟩ = false ∧ w1.frozen? ⟨r, s4, none⟩ = false ∧ r < w1.heap.size := by
  obtain ⟨h, c0, c1, c2, c3, c4, d0, d1, d2, d3, d4, f0, f1, f2, f3, f4, hr⟩ := h
  have hz := h.size
  have hbo : ∀ b i, b < w'.heap.size → w1.cell? ⟨b, i, none⟩ = w'.cell? ⟨b, i, none⟩ := fun b i hl => hb.cell (p := ⟨b, i, none⟩) hl
  have hbf : ∀ b i, b < w'.heap.size → w1.frozen? ⟨b, i, none⟩ = w'.frozen? ⟨b, i, none⟩ := fun b i hl => hb.frozen (p := ⟨b, i, none⟩) hl
  refine ⟨h.trans (Out.ofBelow (F := fun q => q = r) hb) (fun _ _ e => e), (hbo _ _ (by have := k0.1; omega)).trans c0, (hbo _ _ (by have := k1.1; omega)).trans c1, (hbo _ _ (by have := k2.1; omega)).trans c2, (hbo _ _ (by have := k3.1; omega)).trans c3, (hbo _ _ (by have := k4.1; omega)).trans c4, cv_some ((hbo _ _ hr).trans d0), cv_some ((hbo _ _ hr).trans d1), cv_some ((hbo _ _ hr).trans d2), cv_some ((hbo _ _ hr).trans d3), cv_some ((hbo _ _ hr).trans d4), (hbf _ _ hr).trans f0, (hbf _ _ hr).trans f1, (hbf _ _ hr).trans f2, (hbf _ _ hr).trans f3, (hbf _ _ hr).trans f4, by have := hb.size; omega⟩
theorem QS_set {W w' : World} {r b0 b1 b2 b3 b4 o0 o1 o2 o3 o4 s0 s1 s2 s3 s4 : Nat} {V0 V1 V2 V3 V4 : Value} {u0 u1 u2 u3 u4 : Value} (k0 : b0 < W.heap.size ∧ b0 ≠ r) (k1 : b1 < W.heap.size ∧ b1 ≠ r) (k2 : b2 < W.heap.size ∧ b2 ≠ r) (k3 : b3 < W.heap.size ∧ b3 ≠ r) (k4 : b4 < W.heap.size ∧ b4 ≠ r) (h : Out (fun q => q = r) W w' ∧ w'.cell? ⟨b0, o0, none⟩ = some (V0) ∧ w'.cell? ⟨b1, o1, none⟩ = some (V1) ∧ w'.cell? ⟨b2, o2, none⟩ = some (V2) ∧ w'.cell? ⟨b3, o3, none⟩ = some (V3) ∧ w'.cell? ⟨b4, o4, none⟩ = some (V4) ∧ w'.cell? ⟨r, s0, none⟩ = some (cv w' r (s0)) ∧ w'.cell? ⟨r, s1, none⟩ = some (cv w' r (s1)) ∧ w'.cell? ⟨r, s2, none⟩ = some (cv w' r (s2)) ∧ w'.cell? ⟨r, s3, none⟩ = some (cv w' r (s3)) ∧ w'.cell? ⟨r, s4, none⟩ = some (cv w' r (s4)) ∧ w'.frozen? ⟨r, s0, none⟩ = false ∧ w'.frozen? ⟨r, s1, none⟩ = false ∧ w'.frozen? ⟨r, s2, none⟩ = false ∧ w'.frozen? ⟨r, s3, none⟩ = false ∧ w'.frozen? ⟨r, s4, none⟩ = false ∧ r < w'.heap.size) : Out (fun q => q = r) W (((((w'.setCell ⟨r, s0, none⟩ u0).setCell ⟨r, s1, none⟩ u1).setCell ⟨r, s2, none⟩ u2).setCell ⟨r, s3, none⟩ u3).setCell ⟨r, s4, none⟩ u4) ∧ (((((w'.setCell ⟨r, s0, none⟩ u0).setCell ⟨r, s1, none⟩ u1).setCell ⟨r, s2, none⟩ u2).setCell ⟨r, s3, none⟩ u3).setCell ⟨r, s4, none⟩ u4).cell? ⟨b0, o0, none⟩ = some (V0) ∧ (((((w'.setCell ⟨r, s0, none⟩ u0).setCell ⟨r, s1, none⟩ u1).setCell ⟨r, s2, none⟩ u2).setCell ⟨r, s3, none⟩ u3).setCell ⟨r, s4, none⟩ u4).cell? ⟨b1, o1, none⟩ = some (V1) ∧ (((((w'.setCell ⟨r, s0, none⟩ u0).setCell ⟨r, s1, none⟩ u1).setCell ⟨r, s2, none⟩ u2).setCell ⟨r, s3, none⟩ u3).setCell ⟨r, s4, none⟩ u4).cell? ⟨b2, o2, none⟩ = some (V2) ∧ (((((w'.setCell ⟨r, s0, none⟩ u0).setCell ⟨r, s1, none⟩ u1).setCell ⟨r, s2, none⟩ u2).setCell ⟨r, s3, none⟩ u3).setCell ⟨r, s4, none⟩ u4).cell? ⟨b3, o3, none⟩ = some (V3) ∧ (((((w'.setCell ⟨r, s0, none⟩ u0).setCell ⟨r, s1, none⟩ u1).setCell ⟨r, s2, none⟩ u2).setCell ⟨r, s3, none⟩ u3).setCell ⟨r, s4, none⟩ u4).cell? ⟨b4, o4, none⟩ = some (V4) ∧ (((((w'.setCell ⟨r, s0, none⟩ u0).setCell ⟨r, s1, none⟩ u1).setCell ⟨r, s2, none⟩ u2).setCell ⟨r, s3, none⟩ u3).setCell ⟨r, s4, none⟩ u4).cell? ⟨r, s0, none⟩ = some (cv ((((((w'.setCell ⟨r, s0, none⟩ u0).setCell ⟨r, s1, none⟩ u1).setCell ⟨r, s2, none⟩ u2).setCell ⟨r, s3, none⟩ u3).setCell ⟨r, s4, none⟩ u4)) r (s0)) ∧ (((((w'.setCell ⟨r, s0, none⟩ u0).setCell ⟨r, s1, none⟩ u1).setCell ⟨r, s2, none⟩ u2).setCell ⟨r, s3, none⟩ u3).setCell ⟨r, s4, none⟩ u4).cell? ⟨r, s1, none⟩ = some (cv ((((((w'.setCell ⟨r, s0, none⟩ u0).setCell ⟨r, s1, none⟩ u1).setCell ⟨r, s2, none⟩ u2).setCell ⟨r, s3, none⟩ u3).setCell ⟨r, s4, none⟩ u4)) r (s1)) ∧ (((((w'.setCell ⟨r, s0, none⟩ u0).setCell ⟨r, s1, none⟩ u1).setCell ⟨r, s2, none⟩ u2).setCell ⟨r, s3, none⟩ u3).setCell ⟨r, s4, none⟩ u4).cell? ⟨r, s2, none⟩ = some (cv ((((((w'.setCell ⟨r, s0, none⟩ u0).setCell ⟨r, s1, none⟩ u1).setCell ⟨r, s2, none⟩ u2).setCell ⟨r, s3, none⟩ u3).setCell ⟨r, s4, none⟩ u4)) r (s2)) ∧ (((((w'.setCell ⟨r, s0, none⟩ u0).setCell ⟨r, s1, none⟩ u1).setCell ⟨r, s2, none⟩ u2).setCell ⟨r, s3, none⟩ u3).setCell ⟨r, s4, none⟩ u4).cell? ⟨r, s3, none⟩ = some (cv ((((((w'.setCell ⟨r, s0, none⟩ u0).setCell ⟨r, s1, none⟩ u1).setCell ⟨r, s2, none⟩ u2).setCell ⟨r, s3, none⟩ u3).setCell ⟨r, s4, none⟩ u4)) r (s3)) ∧ (((((w'.setCell ⟨r, s0, none⟩ u0).setCell ⟨r, s1, none⟩ u1).setCell ⟨r, s2, none⟩ u2).setCell ⟨r, s3, none⟩ u3).setCell ⟨r, s4, none⟩ u4).cell? ⟨r, s4, none⟩ = some (cv ((((((w'.setCell ⟨r, s0, none⟩ u0).setCell ⟨r, s1, none⟩ u1).setCell ⟨r, s2, none⟩ u2).setCell ⟨r, s3, none⟩ u3).setCell ⟨r, s4, none⟩ u4)) r (s4)) ∧ (((((w'.setCell ⟨r, s0, none⟩ u0).setCell ⟨r, s1, none⟩ u1).setCell ⟨r, s2, none⟩ u2).setCell ⟨r, s3, none⟩ u3).setCell ⟨r, s4, none⟩ u4).frozen? ⟨r, s0, none⟩ = false ∧ (((((w'.setCell ⟨r, s0, none⟩ u0).setCell ⟨r, s1, none⟩ u1).setCell ⟨r, s2, none⟩ u2).setCell ⟨r, s3, none⟩ u3).setCell ⟨r, s4, none⟩ u4).frozen? ⟨r, s1, none⟩ = false ∧ (((((w'.setCell ⟨r, s0, none⟩ u0).setCell ⟨r, s1, none⟩ u1).setCell ⟨r, s2, none⟩ u2).setCell ⟨r, s3, none⟩ u3).setCell ⟨r, s4, none⟩ u4).frozen? ⟨r, s2, none⟩ = false ∧ (((((w'.setCell ⟨r, s0, none⟩ u0).setCell ⟨r, s1, none⟩ u1).setCell ⟨r, s2, none⟩ u2).setCell ⟨r, s3, none⟩ u3).setCell ⟨r, s4, none⟩ u4).frozen? ⟨r, s3, none⟩ = false ∧ (((((w'.setCell ⟨r, s0, none⟩ u0).setCell ⟨r, s1, none⟩ u1).setCell ⟨r, s2, none⟩ u2).setCell ⟨r, s3, none⟩ u3).setCell ⟨r, s4, none⟩ u4).frozen? ⟨r, s4, none⟩ = false ∧ r < (((((w'.setCell ⟨r, s0, none⟩ u0).setCell ⟨r, s1, none⟩ u1).setCell ⟨r, s2, none⟩ u2).setCell ⟨r, s3, none⟩ u3).setCell ⟨r, s4, none⟩ u4).heap.size := (QS.one k0 k1 k2 k3 k4 (QS.one k0 k1 k2 k3 k4 (QS.one k0 k1 k2 k3 k4 (QS.one k0 k1 k2 k3 k4 (QS.one k0 k1 k2 k3 k4 h s0 u0) s1 u1) s2 u2) s3 u3) s4 u4)
theorem QS_out {W w' : World} {r b0 b1 b2 b3 b4 o0 o1 o2 o3 o4 s0 s1 s2 s3 s4 : Nat} {V0 V1 V2 V3 V4 : Value} (h : Out (fun q => q = r) W w' ∧ w'.cell? ⟨b0, o0, none⟩ = some (V0) ∧ w'.cell? ⟨b1, o1, none⟩ = some (V1) ∧ w'.cell? ⟨b2, o2, none⟩ = some (V2) ∧ w'.cell? ⟨b3, o3, none⟩ = some (V3) ∧ w'.cell? ⟨b4, o4, none⟩ = some (V4) ∧ w'.cell? ⟨r, s0, none⟩ = some (cv w' r (s0)) ∧ w'.cell? ⟨r, s1, none⟩ = some (cv w' r (s1)) ∧ w'.cell? ⟨r, s2, none⟩ = some (cv w' r (s2)) ∧ w'.cell? ⟨r, s3, none⟩ = some (cv w' r (s3)) ∧ w'.cell? ⟨r, s4, none⟩ = some (cv w' r (s4)) ∧ w'.frozen? ⟨r, s0, none⟩ = false ∧ w'.frozen? ⟨r, s1, none⟩ = false ∧ w'.frozen? ⟨r, s2, none⟩ = false ∧ w'.frozen? ⟨r, s3, none⟩ = false ∧ w'.frozen? ⟨r, s4, none⟩ = false ∧ r < w'.heap.size) : Out (fun q => q = r) W w' := h.1

theorem at8' {w : World} {b o : Nat} {x0 x1 x2 x3 x4 x5 x6 x7 : Int} (h : IntsAt w (some ⟨b, o, none⟩) [x0, x1, x2, x3, x4, x5, x6, x7]) : True ∧ True ∧ True ∧ b < w.heap.size ∧ w.cell? ⟨b, o, none⟩ = some (.int .i64 x0) ∧ w.cell? ⟨b, o + 1, none⟩ = some (.int .i64 x1) ∧ w.cell? ⟨b, o + 2, none⟩ = some (.int .i64 x2) ∧ w.cell? ⟨b, o + 3, none⟩ = some (.int .i64 x3) ∧ w.cell? ⟨b, o + 4, none⟩ = some (.int .i64 x4) := by
  obtain ⟨b', o', he, hb, h0, h1, h2, h3, h4⟩ := at8 h
  cases he
  exact ⟨trivial, trivial, trivial, hb, h0, h1, h2, h3, h4⟩
/-- An answer of a block and a code. -/
def TRes (base : Nat) (w' : World) (r : Ending) (c : Int) (B : Blk) : Prop := ∃ v, r = .returned (.tuple #[.agg (blkV B v), .int .i64 c]) ∧ w'.ownsRow base 2 1 v B.nl.length (nums B.nl)
theorem results_cell_tmp {P : Program} {fn : Func} {p q : Tmp} {ty : TypeId} (h : fn.results = #[.cell p ty, .tmp q]) (tmps : Array Value) (w : World) (g : Nat) (t : TypeId) (cs : Array Value) (fr : Nat × Nat) (d : TypeDesc) (v : Value)
    (hp : tmps.getD p undef = .pointer (some ⟨g, 0, none⟩)) (hq : tmps.getD q undef = v) (hg : w.heap[g]? = some (.cells cs t fr))
    (hu : P.underlying ty = some d) (hd : (match d with | .struct _ | .array _ _ => true | _ => false) = true) (hi : (P.info? ty).map (·.size) = some cs.size) :
    (results fn tmps).run P w = .ok (.tuple #[.agg cs, v]) w := by
  have hp' : tmps[p]?.getD undef = .pointer (some ⟨g, 0, none⟩) := by simpa using hp
  have hq' : tmps[q]?.getD undef = v := by simpa using hq
  simp [results, h, hp', hq', asAddr, run_loadVar_row w g t ty cs fr d hg hu hd hi]
theorem l1Head_any (n : Int) (w : World) (hok : whOk n = true) :
    Calls Tryz.prog 60 #[.int .i64 n] w fun r w' => r = .returned (.tuple #[.agg #[.int .i64 (n % 4), .int .i64 (n / 16 % 1000), .int .i64 (n / 4 % 4), .int .i64 (n / 16000)], .bool true]) ∧ Below w.heap.size w w' := by
  simp only [whOk, Bool.and_eq_true] at hok
  refine (l1Head_yes n w hok.1).mono ?_
  rintro r w1 ⟨rfl, hb⟩
  rw [hok.2]
  exact ⟨rfl, hb⟩
theorem l1Head_none (n : Int) (w : World) (hok : whOk n = false) :
    Calls Tryz.prog 60 #[.int .i64 n] w fun r w' => (∃ k u i e : Int, r = .returned (.tuple #[.agg #[.int .i64 k, .int .i64 u, .int .i64 i, .int .i64 e], .bool false])) ∧ Below w.heap.size w w' := by
  cases h : inB n 0 999999999999999
  · refine (l1Head_no n w h).mono ?_
    rintro r w1 ⟨rfl, hb⟩
    exact ⟨⟨_, _, _, _, rfl⟩, hb⟩
  · have h2 : headOk (n % 4) (n / 16 % 1000) (n / 4 % 4) (n / 16000) = false := by
      simpa [whOk, h] using hok
    refine (l1Head_yes n w h).mono ?_
    rintro r w1 ⟨rfl, hb⟩
    rw [h2]
    exact ⟨⟨_, _, _, _, rfl⟩, hb⟩
set_option maxRecDepth 20000 in
set_option maxHeartbeats 4000000 in
theorem l3Read_form (a : Option Addr) (c : Nat) (x0 x1 x2 x3 x4 x5 x6 x7 : Int) (w : World) (h : IntsAt w a [x0, x1, x2, x3, x4, x5, x6, x7]) (hok : whOk x0 = false) :
    Calls Tryz.prog 61 #[.slice a 8 c] w fun r w' => TRes w.heap.size w' r (readCode [x0, x1, x2, x3, x4, x5, x6, x7]) (readBlk [x0, x1, x2, x3, x4, x5, x6, x7]) ∧ Below w.heap.size w w' := by
  have HC : Hid (readCode [x0, x1, x2, x3, x4, x5, x6, x7] = 1) := by rw [Hid, readCode, if_neg (by rw [hok]; decide)]
  have HC2 : Hid (readBlk [x0, x1, x2, x3, x4, x5, x6, x7] = Blk.none) := by
    have hbk : readBlk [x0, x1, x2, x3, x4, x5, x6, x7] = if readCode [x0, x1, x2, x3, x4, x5, x6, x7] = 0 then toldBlk x0 x1 x2 x3 x4 else Blk.none := rfl
    rw [Hid, hbk, if_neg (by rw [unhide HC]; decide)]
  obtain ⟨W, hW, hWz, HB0, HX0⟩ := boxes1 w [.int .i64 0, .int .i64 0, .int .i64 0, .int .i64 0, .int .i64 0, .bool false, .int .i64 0, .string ⟨#[]⟩, .int .i64 0, .slice none 0 0] 44
  obtain ⟨b, o, rfl, hb, q0, -⟩ := at8 h
  have p0 : W.cell? ⟨b, o, none⟩ = some (.int .i64 x0) := ((bcell (unhide HB0)).1 _ _ hb).trans q0
  have HOK := hide hok
  clear h hok
  go_enter Tryz.func61, Tryz.ntmps61
  go_wp2_with fail
  rw [← hW]
  clear hW q0
  refine (l1Head_none x0 _ (unhide HOK)).mono ?_
  rintro r w1 ⟨⟨k, u, i, e, rfl⟩, hb1⟩
  have HX1 := hide ((unhide HX0).below hb1)
  have HB1 := hide (below_step (unhide HB0) hb1 (by omega))
  have z1 : w.heap.size < w1.heap.size := by have := hb1.size; omega
  clear hb1 HX0 HB0 p0
  go_wp2_with (first | (refine wpList_store_part rfl 44 (.tmp 2) (.tmp 17) rfl w.heap.size 0 _ rfl rfl 44 _ ((unhide HX1).alloc _) (by kernel_rfl) (by simp) (by simp [Value.oneCell']) ?_; intro wZ XZ OZ))
  have XR : Hid (Box wZ w.heap.size [.int .i64 0, .int .i64 0, .int .i64 0, .int .i64 0, .int .i64 0, .bool false, .int .i64 0, .string ⟨#[]⟩, .int .i64 0, .slice none 0 0] 44) := XZ
  have BR : Hid (Below w.heap.size w wZ) := (unhide OZ).below ((unhide HB1).alloc (by omega) _) (Nat.le_refl _) (fun q hq e => by omega)
  refine bodyPost_ret (results_cell_tmp Tryz.results61 _ wZ w.heap.size 44 _ (0, 0) _ _ rfl rfl (unhide XR) Tryz.underlying44 rfl (by kernel_rfl)) rfl ⟨?_, unhide BR⟩
  rw [unhide HC, unhide HC2]
  exact ⟨_, rfl, World.ownsRow_nil _ _ _ _⟩
set_option maxRecDepth 20000 in
set_option maxHeartbeats 4000000 in
theorem l3Read_gone (a : Option Addr) (c : Nat) (hc8 : 8 ≤ c) (x0 x1 x2 x3 x4 x5 x6 x7 : Int) (w : World) (h : IntsAt w a [x0, x1, x2, x3, x4, x5, x6, x7]) (hok : whOk x0 = true) (hk : x0 % 4 = 3) :
    Calls Tryz.prog 61 #[.slice a 8 c] w fun r w' => TRes w.heap.size w' r (readCode [x0, x1, x2, x3, x4, x5, x6, x7]) (readBlk [x0, x1, x2, x3, x4, x5, x6, x7]) ∧ Below w.heap.size w w' := by
  have hrd : readCode [x0, x1, x2, x3, x4, x5, x6, x7] = if againCode x0 x1 x2 x3 x4 = 0 ∧ againWords x0 x1 x2 x3 x4 = [x0, x1, x2, x3, x4, x5, x6, x7] then 0 else 5 := by
    rw [readCode, if_pos hok, if_neg (by omega)]
  have hac : againCode x0 x1 x2 x3 x4 = goneCode (x0 / 16 % 1000) (x0 / 16000) := by unfold againCode; simp [hk]
  have haw : againWords x0 x1 x2 x3 x4 = goneWords (x0 / 16 % 1000) (x0 / 16000) := by unfold againWords; simp [hk]
  have htb : toldBlk x0 x1 x2 x3 x4 = ⟨3, x0 / 16 % 1000, 0, x0 / 16000, 0, false, 0, ⟨#[]⟩, 0, []⟩ := by unfold toldBlk; simp [hk]
  have hbk : readBlk [x0, x1, x2, x3, x4, x5, x6, x7] = if readCode [x0, x1, x2, x3, x4, x5, x6, x7] = 0 then toldBlk x0 x1 x2 x3 x4 else Blk.none := rfl
  rw [hac, haw] at hrd
  rw [htb] at hbk
  have HRD := hide hrd
  have HBK := hide hbk
  clear hrd hbk hac haw htb
  have hi : x0 / 4 % 4 = 0 := by
    simp only [whOk, Bool.and_eq_true, headOk, hk] at hok
    have := hok.2
    simp [inB] at this
    omega
  have HI := hide hi
  clear hi
  obtain ⟨W, hW, hWz, HB0, HX0⟩ := boxes1 w [.int .i64 0, .int .i64 0, .int .i64 0, .int .i64 0, .int .i64 0, .bool false, .int .i64 0, .string ⟨#[]⟩, .int .i64 0, .slice none 0 0] 44
  obtain ⟨b, o, rfl, hb, q0, -⟩ := at8 h
  have H0 := hide (h.below (unhide HB0))
  have p0 : W.cell? ⟨b, o, none⟩ = some (.int .i64 x0) := ((bcell (unhide HB0)).1 _ _ hb).trans q0
  have HOK := hide hok
  have HK := hide hk
  clear h hok hk
  go_enter Tryz.func61, Tryz.ntmps61
  go_wp2_with fail
  rw [← hW]
  clear hW q0
  refine (l1Head_any x0 _ (unhide HOK)).mono ?_
  rintro r w1 ⟨rfl, hb1⟩
  rw [unhide HK, unhide HI]
  have HX1 := hide ((unhide HX0).below hb1)
  have HB1 := hide (below_step (unhide HB0) hb1 (by omega))
  have H1 := hide ((unhide H0).below hb1)
  have z1 : w.heap.size < w1.heap.size := by have := hb1.size; omega
  clear hb1 HX0 HB0 H0 p0
  generalize x0 / 16 % 1000 = u at *
  generalize x0 / 16000 = e at *
  obtain ⟨W3, hW3, hW3z, HBw, HH3, HT3, HR3⟩ := boxes3 w1 [.int .i64 3, .int .i64 u, .int .i64 0, .int .i64 e] [.int .i64 3, .int .i64 u, .int .i64 0, .int .i64 e, .int .i64 0, .bool false, .int .i64 0, .string ⟨#[]⟩, .int .i64 0, .slice none 0 0] [.int .i64 0, .slice (some ⟨b, o, none⟩) 8 c] 40 44 153
  have HX3 := hide ((unhide HX1).below (unhide HBw))
  have HB3 := hide (below_step (unhide HB1) (unhide HBw) (by omega))
  have H3 := hide ((unhide H1).below (unhide HBw))
  have z3 : w1.heap.size + 1 + 1 < W3.heap.size := by omega
  clear HX1 HB1 H1
  go_wp2_with fail
  rw [← hW3]
  clear hW3
  refine (specPackGone_any u e _).mono ?_
  rintro r w4 ⟨⟨v, rfl, ho⟩, hb4⟩
  obtain ⟨a4, c4, rfl, -, -, -, -⟩ := intsAt_own ho
  have A := hide (intsAt_own1 ho)
  have LA : Hid (∀ x, a4 = some x → w1.heap.size + 1 + 1 < x.block) := fun x hx => by
    have := ho.lt x.block (by rw [hx]; rfl)
    omega
  have HX := hide ((unhide HX3).below hb4)
  have HT := hide ((unhide HT3).below hb4)
  have HR := hide ((unhide HR3).below hb4)
  have H := hide ((unhide H3).below hb4)
  have HB := hide (below_step (unhide HB3) hb4 (by omega))
  have z4 : w1.heap.size + 1 + 1 < w4.heap.size := by have := hb4.size; omega
  clear hb4 ho HX3 HT3 HR3 H3 HB3
  generalize hcd : goneCode u e = cd at *
  generalize hwd : goneWords u e = wd at *
  have hwl : wd.length ≤ 1048576 := by rw [← hwd]; exact goneWords_len _ _
  clear hcd hwd
  have r0 := (unhide HR).cell 0
  have r1 := (unhide HR).cell 1
  have g0 := (unhide HR).frozen 0
  have g1 := (unhide HR).frozen 1
  simp only [List.getElem?_cons_zero, List.getElem?_cons_succ] at r0 r1
  by_cases hc : cd = 0
  · have hcb : (cd != 0) = false := by simpa using hc
    have HC0 := hide hc
    clear hc
    go_wp2_with fail
    generalize hU : ((w4.setCell ⟨w1.heap.size + 1 + 1, 0, none⟩ (.int .i64 cd)).setCell ⟨w1.heap.size + 1 + 1, 1, none⟩ (.slice a4 wd.length c4)) = U at *
    obtain ⟨HRU, HOU⟩ := store2' (unhide HR) hU
    have HXU := hide ((unhide HX).out (unhide HOU) (by show ¬ w.heap.size = w1.heap.size + 1 + 1; omega))
    have HTU := hide ((unhide HT).out (unhide HOU) (by show ¬ w1.heap.size + 1 = w1.heap.size + 1 + 1; omega))
    have HBU := hide ((unhide HOU).below (unhide HB) (Nat.le_refl _) (fun q hq e => by omega))
    have HIU := hide ((unhide HOU).ints (unhide H) (fun x hx e => by cases hx; simp at e; omega))
    have HAU := hide ((unhide HOU).ints (unhide A) (fun x hx e => by have := unhide LA x hx; omega))
    have zU : w4.heap.size ≤ U.heap.size := (unhide HOU).size
    clear hU HOU HR HX HT HB H A r0 r1 g0 g1 HRU
    refine (l1Same_any a4 (some ⟨b, o, none⟩) c4 c wd [x0, x1, x2, x3, x4, x5, x6, x7] _ (unhide HAU) (unhide HIU) hwl).mono ?_
    rintro r w5 ⟨rfl, hb5⟩
    have HX5 := hide ((unhide HXU).below hb5)
    have HT5 := hide ((unhide HTU).below hb5)
    have HB5 := hide (below_step (unhide HBU) hb5 (by omega))
    clear hb5 HXU HTU HBU HIU HAU
    by_cases heq : wd = [x0, x1, x2, x3, x4, x5, x6, x7]
    · have hd : decide (wd = [x0, x1, x2, x3, x4, x5, x6, x7]) = true := by simpa using heq
      rw [hd]
      have HC : Hid (readCode [x0, x1, x2, x3, x4, x5, x6, x7] = 0) := by rw [Hid, unhide HRD, if_pos ⟨unhide HC0, heq⟩]
      have HC2 : Hid (readBlk [x0, x1, x2, x3, x4, x5, x6, x7] = ⟨3, u, 0, e, 0, false, 0, ⟨#[]⟩, 0, []⟩) := by rw [Hid, unhide HBK, if_pos (unhide HC)]
      clear hd heq
      go_wp2_with (first | (refine wpList_load_part rfl 44 (.tmp 6) rfl (w1.heap.size + 1) 0 rfl 44 _ [.int .i64 3, .int .i64 u, .int .i64 0, .int .i64 e, .int .i64 0, .bool false, .int .i64 0, .string ⟨#[]⟩, .int .i64 0, .slice none 0 0] (unhide HT5) rfl _ Tryz.underlying44 rfl (by kernel_rfl) ?_) | (refine wpList_store_part rfl 44 (.tmp 2) (.tmp 82) rfl w.heap.size 0 _ rfl rfl 44 _ (unhide HX5) (by kernel_rfl) (by simp) (by simp [Value.oneCell']) ?_; intro wZ XZ OZ))
      have XR : Hid (Box wZ w.heap.size [.int .i64 3, .int .i64 u, .int .i64 0, .int .i64 e, .int .i64 0, .bool false, .int .i64 0, .string ⟨#[]⟩, .int .i64 0, .slice none 0 0] 44) := XZ
      have BR : Hid (Below w.heap.size w wZ) := (unhide OZ).below (unhide HB5) (Nat.le_refl _) (fun q hq e => by omega)
      refine bodyPost_ret (results_cell_tmp Tryz.results61 _ wZ w.heap.size 44 _ (0, 0) _ _ rfl rfl (unhide XR) Tryz.underlying44 rfl (by kernel_rfl)) rfl ⟨?_, unhide BR⟩
      rw [unhide HC, unhide HC2]
      exact ⟨_, rfl, World.ownsRow_nil _ _ _ _⟩
    · have hd : decide (wd = [x0, x1, x2, x3, x4, x5, x6, x7]) = false := by simpa using heq
      rw [hd]
      have HC : Hid (readCode [x0, x1, x2, x3, x4, x5, x6, x7] = 5) := by rw [Hid, unhide HRD, if_neg (fun hh => heq hh.2)]
      have HC2 : Hid (readBlk [x0, x1, x2, x3, x4, x5, x6, x7] = Blk.none) := by rw [Hid, unhide HBK, if_neg (by rw [unhide HC]; decide)]
      clear hd heq
      go_wp2_with (first | (refine wpList_store_part rfl 44 (.tmp 2) (.tmp 81) rfl w.heap.size 0 _ rfl rfl 44 _ (unhide HX5) (by kernel_rfl) (by simp) (by simp [Value.oneCell']) ?_; intro wZ XZ OZ))
      have XR : Hid (Box wZ w.heap.size [.int .i64 0, .int .i64 0, .int .i64 0, .int .i64 0, .int .i64 0, .bool false, .int .i64 0, .string ⟨#[]⟩, .int .i64 0, .slice none 0 0] 44) := XZ
      have BR : Hid (Below w.heap.size w wZ) := (unhide OZ).below (unhide HB5) (Nat.le_refl _) (fun q hq e => by omega)
      refine bodyPost_ret (results_cell_tmp Tryz.results61 _ wZ w.heap.size 44 _ (0, 0) _ _ rfl rfl (unhide XR) Tryz.underlying44 rfl (by kernel_rfl)) rfl ⟨?_, unhide BR⟩
      rw [unhide HC, unhide HC2]
      exact ⟨_, rfl, World.ownsRow_nil _ _ _ _⟩
  · have hcb : (cd != 0) = true := by simpa using hc
    have HC : Hid (readCode [x0, x1, x2, x3, x4, x5, x6, x7] = 5) := by rw [Hid, unhide HRD, if_neg (fun hh => hc hh.1)]
    have HC2 : Hid (readBlk [x0, x1, x2, x3, x4, x5, x6, x7] = Blk.none) := by rw [Hid, unhide HBK, if_neg (by rw [unhide HC]; decide)]
    clear hc
    go_wp2_with (first | (refine wpList_store_part rfl 44 (.tmp 2) (.tmp 81) rfl w.heap.size 0 _ rfl rfl 44 _ (((unhide HX).set_other (p := ⟨w1.heap.size + 1 + 1, 0, none⟩) (by show w.heap.size ≠ w1.heap.size + 1 + 1; omega) _).set_other (p := ⟨w1.heap.size + 1 + 1, 1, none⟩) (by show w.heap.size ≠ w1.heap.size + 1 + 1; omega) _) (by kernel_rfl) (by simp) (by simp [Value.oneCell']) ?_; intro wZ XZ OZ))
    have XR : Hid (Box wZ w.heap.size [.int .i64 0, .int .i64 0, .int .i64 0, .int .i64 0, .int .i64 0, .bool false, .int .i64 0, .string ⟨#[]⟩, .int .i64 0, .slice none 0 0] 44) := XZ
    have BR : Hid (Below w.heap.size w wZ) := (unhide OZ).below (((unhide HB).setCell (p := ⟨w1.heap.size + 1 + 1, 0, none⟩) (by show w.heap.size ≤ w1.heap.size + 1 + 1; omega) _).setCell (p := ⟨w1.heap.size + 1 + 1, 1, none⟩) (by show w.heap.size ≤ w1.heap.size + 1 + 1; omega) _) (Nat.le_refl _) (fun q hq e => by omega)
    refine bodyPost_ret (results_cell_tmp Tryz.results61 _ wZ w.heap.size 44 _ (0, 0) _ _ rfl rfl (unhide XR) Tryz.underlying44 rfl (by kernel_rfl)) rfl ⟨?_, unhide BR⟩
    rw [unhide HC, unhide HC2]
    exact ⟨_, rfl, World.ownsRow_nil _ _ _ _⟩
set_option maxRecDepth 20000 in
set_option maxHeartbeats 4000000 in
theorem l3Read_piece (a : Option Addr) (c : Nat) (hc8 : 8 ≤ c) (x0 x1 x2 x3 x4 x5 x6 x7 : Int) (w : World) (h : IntsAt w a [x0, x1, x2, x3, x4, x5, x6, x7]) (hok : whOk x0 = true) (hk : x0 % 4 = 2) :
    Calls Tryz.prog 61 #[.slice a 8 c] w fun r w' => TRes w.heap.size w' r (readCode [x0, x1, x2, x3, x4, x5, x6, x7]) (readBlk [x0, x1, x2, x3, x4, x5, x6, x7]) ∧ Below w.heap.size w w' := by
  have hrd : readCode [x0, x1, x2, x3, x4, x5, x6, x7] = if againCode x0 x1 x2 x3 x4 = 0 ∧ againWords x0 x1 x2 x3 x4 = [x0, x1, x2, x3, x4, x5, x6, x7] then 0 else 5 := by
    rw [readCode, if_pos hok, if_neg (by omega)]
  have hac : againCode x0 x1 x2 x3 x4 = dataCode (x0 / 16 % 1000) (x0 / 4 % 4) [x1, x2, x3, x4] (x0 / 16000) := by unfold againCode; simp [hk]
  have haw : againWords x0 x1 x2 x3 x4 = dataWords (x0 / 16 % 1000) (x0 / 4 % 4) [x1, x2, x3, x4] (x0 / 16000) := by unfold againWords; simp [hk]
  have htb : toldBlk x0 x1 x2 x3 x4 = ⟨2, x0 / 16 % 1000, x0 / 4 % 4, x0 / 16000, 0, false, 0, ⟨#[]⟩, 0, [x1, x2, x3, x4]⟩ := by unfold toldBlk; simp [hk]
  have hbk : readBlk [x0, x1, x2, x3, x4, x5, x6, x7] = if readCode [x0, x1, x2, x3, x4, x5, x6, x7] = 0 then toldBlk x0 x1 x2 x3 x4 else Blk.none := rfl
  rw [hac, haw] at hrd
  rw [htb] at hbk
  have HRD := hide hrd
  have HBK := hide hbk
  clear hrd hbk hac haw htb
  obtain ⟨W, hW, hWz, HB0, HX0⟩ := boxes1 w [.int .i64 0, .int .i64 0, .int .i64 0, .int .i64 0, .int .i64 0, .bool false, .int .i64 0, .string ⟨#[]⟩, .int .i64 0, .slice none 0 0] 44
  obtain ⟨b, o, rfl, hb, q0, -⟩ := at8 h
  have H0 := hide (h.below (unhide HB0))
  have p0 : W.cell? ⟨b, o, none⟩ = some (.int .i64 x0) := ((bcell (unhide HB0)).1 _ _ hb).trans q0
  have HOK := hide hok
  have HK := hide hk
  clear h hok hk
  go_enter Tryz.func61, Tryz.ntmps61
  go_wp2_with fail
  rw [← hW]
  clear hW q0
  refine (l1Head_any x0 _ (unhide HOK)).mono ?_
  rintro r w1 ⟨rfl, hb1⟩
  rw [unhide HK]
  have HX1 := hide ((unhide HX0).below hb1)
  have HB1 := hide (below_step (unhide HB0) hb1 (by omega))
  have H1 := hide ((unhide H0).below hb1)
  have z1 : w.heap.size < w1.heap.size := by have := hb1.size; omega
  clear hb1 HX0 HB0 H0 p0
  generalize x0 / 16 % 1000 = u at *
  generalize x0 / 4 % 4 = i at *
  generalize x0 / 16000 = e at *
  obtain ⟨W3, hW3, hW3z, HBw, HH3, HT3, HR3⟩ := boxes3 w1 [.int .i64 2, .int .i64 u, .int .i64 i, .int .i64 e] [.int .i64 2, .int .i64 u, .int .i64 i, .int .i64 e, .int .i64 0, .bool false, .int .i64 0, .string ⟨#[]⟩, .int .i64 0, .slice none 0 0] [.int .i64 0, .slice (some ⟨b, o, none⟩) 8 c] 40 44 153
  have HX3 := hide ((unhide HX1).below (unhide HBw))
  have HB3 := hide (below_step (unhide HB1) (unhide HBw) (by omega))
  have H3 := hide ((unhide H1).below (unhide HBw))
  have z3 : w1.heap.size + 1 + 1 < W3.heap.size := by omega
  clear HX1 HB1 H1
  go_wp2_with fail
  rw [← hW3]
  clear hW3
  refine (l1Ints_any (some ⟨b, o + 1, none⟩) (c - 1) [x1, x2, x3, x4] _ (ints_part (unhide H3)) (by simp) (by simp)).mono ?_
  rintro r w3 ⟨⟨vn, rfl, hon⟩, hb3⟩
  obtain ⟨an, cn, rfl, -, -, -, -⟩ := intsAt_own hon
  have LN : Hid (∀ q, (Value.slice an [x1, x2, x3, x4].length cn).ownBlock = some q → w1.heap.size + 1 + 1 < q) := fun q hq => by
    have := hon.lt q hq
    omega
  have ON := hide hon
  have HX4 := hide ((unhide HX3).below hb3)
  have HT4 := hide ((unhide HT3).below hb3)
  have HR4 := hide ((unhide HR3).below hb3)
  have HH4 := hide ((unhide HH3).below hb3)
  have H4 := hide ((unhide H3).below hb3)
  have HB4 := hide (below_step (unhide HB3) hb3 (by omega))
  have z33 : w1.heap.size + 1 + 1 < w3.heap.size := by have := hb3.size; omega
  clear hon hb3 HX3 HT3 HR3 HH3 H3 HB3
  have t9 := (unhide HT4).cell 9
  have g9 := (unhide HT4).frozen 9
  have hh1 := (unhide HH4).cell 1
  have hh2 := (unhide HH4).cell 2
  have hh3 := (unhide HH4).cell 3
  simp only [List.getElem?_cons_zero, List.getElem?_cons_succ] at t9 hh1 hh2 hh3
  have ne1 : w1.heap.size ≠ w1.heap.size + 1 := by omega
  go_wp2_with fail
  generalize hV : w3.setCell ⟨w1.heap.size + 1, 9, none⟩ (.slice an 4 cn) = V at *
  have HX3 := hide ((unhide HX4).other' hV (by show w.heap.size ≠ w1.heap.size + 1; omega))
  have HT3 : Hid (Box V (w1.heap.size + 1) [.int .i64 2, .int .i64 u, .int .i64 i, .int .i64 e, .int .i64 0, .bool false, .int .i64 0, .string ⟨#[]⟩, .int .i64 0, .slice an 4 cn] 44) := (unhide HT4).set' hV
  have HR3 := hide ((unhide HR4).other' hV (by show w1.heap.size + 1 + 1 ≠ w1.heap.size + 1; omega))
  have OV : Hid (Out (fun q => q = w1.heap.size + 1) w3 V) := out_set' (Out.refl _ _) hV (.inl rfl)
  have H3 := hide ((unhide OV).ints (unhide H4) (fun x hx e => by cases hx; simp at e; omega))
  have HB3 := hide (below_set' (unhide HB4) hV (by show w.heap.size ≤ w1.heap.size + 1; omega))
  have ON3 := hide ((unhide OV).own (unhide ON) (fun q hq e => by have := unhide LN q hq; omega))
  have z3v : w1.heap.size + 1 + 1 < V.heap.size := by have := (unhide OV).size; omega
  clear hV OV HX4 HT4 HR4 HH4 H4 HB4 ON t9 g9 hh1 hh2 hh3
  refine (specPackData_any u i an cn [x1, x2, x3, x4] e _ (intsAt_own1 (unhide ON3)) (by simp)).mono ?_
  rintro r w4 ⟨⟨v, rfl, ho⟩, hb4⟩
  obtain ⟨a4, c4, rfl, -, -, -, -⟩ := intsAt_own ho
  have A := hide (intsAt_own1 ho)
  have LA : Hid (∀ x, a4 = some x → w1.heap.size + 1 + 1 < x.block) := fun x hx => by
    have := ho.lt x.block (by rw [hx]; rfl)
    omega
  have HX := hide ((unhide HX3).below hb4)
  have HT := hide ((unhide HT3).below hb4)
  have HR := hide ((unhide HR3).below hb4)
  have H := hide ((unhide H3).below hb4)
  have HB := hide (below_step (unhide HB3) hb4 (by omega))
  have z4 : w1.heap.size + 1 + 1 < w4.heap.size := by have := hb4.size; omega
  have ON4 := hide (own_below (unhide ON3) hb4)
  clear ON3
  clear hb4 ho HX3 HT3 HR3 H3 HB3
  generalize hcd : dataCode u i [x1, x2, x3, x4] e = cd at *
  generalize hwd : dataWords u i [x1, x2, x3, x4] e = wd at *
  have hwl : wd.length ≤ 1048576 := by rw [← hwd]; exact dataWords_len _ _ _ _
  clear hcd hwd
  have r0 := (unhide HR).cell 0
  have r1 := (unhide HR).cell 1
  have g0 := (unhide HR).frozen 0
  have g1 := (unhide HR).frozen 1
  simp only [List.getElem?_cons_zero, List.getElem?_cons_succ] at r0 r1
  by_cases hc : cd = 0
  · have hcb : (cd != 0) = false := by simpa using hc
    have HC0 := hide hc
    clear hc
    go_wp2_with fail
    generalize hU : ((w4.setCell ⟨w1.heap.size + 1 + 1, 0, none⟩ (.int .i64 cd)).setCell ⟨w1.heap.size + 1 + 1, 1, none⟩ (.slice a4 wd.length c4)) = U at *
    obtain ⟨HRU, HOU⟩ := store2' (unhide HR) hU
    have HXU := hide ((unhide HX).out (unhide HOU) (by show ¬ w.heap.size = w1.heap.size + 1 + 1; omega))
    have HTU := hide ((unhide HT).out (unhide HOU) (by show ¬ w1.heap.size + 1 = w1.heap.size + 1 + 1; omega))
    have HBU := hide ((unhide HOU).below (unhide HB) (Nat.le_refl _) (fun q hq e => by omega))
    have HIU := hide ((unhide HOU).ints (unhide H) (fun x hx e => by cases hx; simp at e; omega))
    have HAU := hide ((unhide HOU).ints (unhide A) (fun x hx e => by have := unhide LA x hx; omega))
    have zU : w4.heap.size ≤ U.heap.size := (unhide HOU).size
    have ONU := hide ((unhide HOU).own (unhide ON4) (fun q hq e => by have := unhide LN q hq; omega))
    clear ON4
    clear hU HOU HR HX HT HB H A r0 r1 g0 g1 HRU
    refine (l1Same_any a4 (some ⟨b, o, none⟩) c4 c wd [x0, x1, x2, x3, x4, x5, x6, x7] _ (unhide HAU) (unhide HIU) hwl).mono ?_
    rintro r w5 ⟨rfl, hb5⟩
    have HX5 := hide ((unhide HXU).below hb5)
    have HT5 := hide ((unhide HTU).below hb5)
    have HB5 := hide (below_step (unhide HBU) hb5 (by omega))
    have ON5 := hide (own_below (unhide ONU) hb5)
    clear ONU
    clear hb5 HXU HTU HBU HIU HAU
    by_cases heq : wd = [x0, x1, x2, x3, x4, x5, x6, x7]
    · have hd : decide (wd = [x0, x1, x2, x3, x4, x5, x6, x7]) = true := by simpa using heq
      rw [hd]
      have HC : Hid (readCode [x0, x1, x2, x3, x4, x5, x6, x7] = 0) := by rw [Hid, unhide HRD, if_pos ⟨unhide HC0, heq⟩]
      have HC2 : Hid (readBlk [x0, x1, x2, x3, x4, x5, x6, x7] = ⟨2, u, i, e, 0, false, 0, ⟨#[]⟩, 0, [x1, x2, x3, x4]⟩) := by rw [Hid, unhide HBK, if_pos (unhide HC)]
      clear hd heq
      go_wp2_with (first | (refine wpList_load_part rfl 44 (.tmp 6) rfl (w1.heap.size + 1) 0 rfl 44 _ [.int .i64 2, .int .i64 u, .int .i64 i, .int .i64 e, .int .i64 0, .bool false, .int .i64 0, .string ⟨#[]⟩, .int .i64 0, .slice an 4 cn] (unhide HT5) rfl _ Tryz.underlying44 rfl (by kernel_rfl) ?_) | (refine wpList_store_part rfl 44 (.tmp 2) (.tmp 82) rfl w.heap.size 0 _ rfl rfl 44 _ (unhide HX5) (by kernel_rfl) (by simp) (by simp [Value.oneCell']) ?_; intro wZ XZ OZ))
      have XR : Hid (Box wZ w.heap.size [.int .i64 2, .int .i64 u, .int .i64 i, .int .i64 e, .int .i64 0, .bool false, .int .i64 0, .string ⟨#[]⟩, .int .i64 0, .slice an 4 cn] 44) := XZ
      have BR : Hid (Below w.heap.size w wZ) := (unhide OZ).below (unhide HB5) (Nat.le_refl _) (fun q hq e => by omega)
      refine bodyPost_ret (results_cell_tmp Tryz.results61 _ wZ w.heap.size 44 _ (0, 0) _ _ rfl rfl (unhide XR) Tryz.underlying44 rfl (by kernel_rfl)) rfl ⟨?_, unhide BR⟩
      rw [unhide HC, unhide HC2]
      exact ⟨_, rfl, own_base ((unhide OZ).own (unhide ON5) (fun q hq e => by have := unhide LN q hq; omega)) (fun q hq => by have := unhide LN q hq; omega)⟩
    · have hd : decide (wd = [x0, x1, x2, x3, x4, x5, x6, x7]) = false := by simpa using heq
      rw [hd]
      have HC : Hid (readCode [x0, x1, x2, x3, x4, x5, x6, x7] = 5) := by rw [Hid, unhide HRD, if_neg (fun hh => heq hh.2)]
      have HC2 : Hid (readBlk [x0, x1, x2, x3, x4, x5, x6, x7] = Blk.none) := by rw [Hid, unhide HBK, if_neg (by rw [unhide HC]; decide)]
      clear hd heq
      go_wp2_with (first | (refine wpList_store_part rfl 44 (.tmp 2) (.tmp 81) rfl w.heap.size 0 _ rfl rfl 44 _ (unhide HX5) (by kernel_rfl) (by simp) (by simp [Value.oneCell']) ?_; intro wZ XZ OZ))
      have XR : Hid (Box wZ w.heap.size [.int .i64 0, .int .i64 0, .int .i64 0, .int .i64 0, .int .i64 0, .bool false, .int .i64 0, .string ⟨#[]⟩, .int .i64 0, .slice none 0 0] 44) := XZ
      have BR : Hid (Below w.heap.size w wZ) := (unhide OZ).below (unhide HB5) (Nat.le_refl _) (fun q hq e => by omega)
      refine bodyPost_ret (results_cell_tmp Tryz.results61 _ wZ w.heap.size 44 _ (0, 0) _ _ rfl rfl (unhide XR) Tryz.underlying44 rfl (by kernel_rfl)) rfl ⟨?_, unhide BR⟩
      rw [unhide HC, unhide HC2]
      exact ⟨_, rfl, World.ownsRow_nil _ _ _ _⟩
  · have hcb : (cd != 0) = true := by simpa using hc
    have HC : Hid (readCode [x0, x1, x2, x3, x4, x5, x6, x7] = 5) := by rw [Hid, unhide HRD, if_neg (fun hh => hc hh.1)]
    have HC2 : Hid (readBlk [x0, x1, x2, x3, x4, x5, x6, x7] = Blk.none) := by rw [Hid, unhide HBK, if_neg (by rw [unhide HC]; decide)]
    clear hc
    go_wp2_with (first | (refine wpList_store_part rfl 44 (.tmp 2) (.tmp 81) rfl w.heap.size 0 _ rfl rfl 44 _ (((unhide HX).set_other (p := ⟨w1.heap.size + 1 + 1, 0, none⟩) (by show w.heap.size ≠ w1.heap.size + 1 + 1; omega) _).set_other (p := ⟨w1.heap.size + 1 + 1, 1, none⟩) (by show w.heap.size ≠ w1.heap.size + 1 + 1; omega) _) (by kernel_rfl) (by simp) (by simp [Value.oneCell']) ?_; intro wZ XZ OZ))
    have XR : Hid (Box wZ w.heap.size [.int .i64 0, .int .i64 0, .int .i64 0, .int .i64 0, .int .i64 0, .bool false, .int .i64 0, .string ⟨#[]⟩, .int .i64 0, .slice none 0 0] 44) := XZ
    have BR : Hid (Below w.heap.size w wZ) := (unhide OZ).below (((unhide HB).setCell (p := ⟨w1.heap.size + 1 + 1, 0, none⟩) (by show w.heap.size ≤ w1.heap.size + 1 + 1; omega) _).setCell (p := ⟨w1.heap.size + 1 + 1, 1, none⟩) (by show w.heap.size ≤ w1.heap.size + 1 + 1; omega) _) (Nat.le_refl _) (fun q hq e => by omega)
    refine bodyPost_ret (results_cell_tmp Tryz.results61 _ wZ w.heap.size 44 _ (0, 0) _ _ rfl rfl (unhide XR) Tryz.underlying44 rfl (by kernel_rfl)) rfl ⟨?_, unhide BR⟩
    rw [unhide HC, unhide HC2]
    exact ⟨_, rfl, World.ownsRow_nil _ _ _ _⟩
end Go.Proofs.YtiopofemelninaaGreat
/-
  What spec.l3Read answers of a node's words.
-/
namespace Go.Proofs.YtiopofemelninaaGreat
open Go.RowKit
set_option linter.unusedVariables false

theorem l1WordName_nm (n : Int) (w : World) (h0 : -9223372036854775808 ≤ n) (h1 : n ≤ 9223372036854775807) :
    Calls Tryz.prog 89 #[.int .i64 n] w fun e w' => e = .returned (.string (nmOf n)) ∧ Below w.heap.size w w' := l1WordName_any n w h0 h1
set_option maxRecDepth 20000 in
set_option maxHeartbeats 1500000 in
theorem l3Read_node (a : Option Addr) (c : Nat) (hc8 : 8 ≤ c) (x0 x1 x2 x3 x4 x5 x6 x7 : Int) (hx3 : -9223372036854775808 ≤ x3 ∧ x3 ≤ 9223372036854775807) (w : World) (h : IntsAt w a [x0, x1, x2, x3, x4, x5, x6, x7]) (hok : whOk x0 = true) (hk : x0 % 4 = 1) :
    Calls Tryz.prog 61 #[.slice a 8 c] w fun r w' => TRes w.heap.size w' r (readCode [x0, x1, x2, x3, x4, x5, x6, x7]) (readBlk [x0, x1, x2, x3, x4, x5, x6, x7]) ∧ Below w.heap.size w w' := by
  have hrd : readCode [x0, x1, x2, x3, x4, x5, x6, x7] = if againCode x0 x1 x2 x3 x4 = 0 ∧ againWords x0 x1 x2 x3 x4 = [x0, x1, x2, x3, x4, x5, x6, x7] then 0 else 5 := by
    rw [readCode, if_pos hok, if_neg (by omega)]
  have hac : againCode x0 x1 x2 x3 x4 = nodePCode (x0 / 16 % 1000) (x1 == 1) x2 (nmOf x3).data.toList x4 (x0 / 16000) := by unfold againCode; simp [hk]
  have haw : againWords x0 x1 x2 x3 x4 = nodeWords (x0 / 16 % 1000) (x1 == 1) x2 (nmOf x3).data.toList x4 (x0 / 16000) := by unfold againWords; simp [hk]
  have htb : toldBlk x0 x1 x2 x3 x4 = ⟨1, x0 / 16 % 1000, 0, x0 / 16000, x0 / 16 % 1000, x1 == 1, x2, nmOf x3, x4, []⟩ := by unfold toldBlk; simp [hk]
  have hbk : readBlk [x0, x1, x2, x3, x4, x5, x6, x7] = if readCode [x0, x1, x2, x3, x4, x5, x6, x7] = 0 then toldBlk x0 x1 x2 x3 x4 else Blk.none := rfl
  rw [hac, haw] at hrd
  rw [htb] at hbk
  have HRD := hide hrd
  have HBK := hide hbk
  clear hrd hbk hac haw htb
  have hi : x0 / 4 % 4 = 0 := by
    simp only [whOk, Bool.and_eq_true, headOk, hk] at hok
    have := hok.2
    simp [inB] at this
    omega
  have HI := hide hi
  clear hi
  obtain ⟨W, hW, hWz, HB0, HX0⟩ := boxes1 w [.int .i64 0, .int .i64 0, .int .i64 0, .int .i64 0, .int .i64 0, .bool false, .int .i64 0, .string ⟨#[]⟩, .int .i64 0, .slice none 0 0] 44
  obtain ⟨b, o, rfl, hb, q0, -⟩ := at8 h
  have H0 := hide (h.below (unhide HB0))
  have p0 : W.cell? ⟨b, o, none⟩ = some (.int .i64 x0) := ((bcell (unhide HB0)).1 _ _ hb).trans q0
  have HOK := hide hok
  have HK := hide hk
  clear h hok hk
  go_enter Tryz.func61, Tryz.ntmps61
  go_wp2_with fail
  rw [← hW]
  clear hW q0
  refine (l1Head_any x0 _ (unhide HOK)).mono ?_
  rintro r w1 ⟨rfl, hb1⟩
  rw [unhide HK, unhide HI]
  have HX1 := hide ((unhide HX0).below hb1)
  have HB1 := hide (below_step (unhide HB0) hb1 (by omega))
  have H1 := hide ((unhide H0).below hb1)
  have z1 : w.heap.size < w1.heap.size := by have := hb1.size; omega
  clear hb1 HX0 HB0 H0 p0
  generalize x0 / 16 % 1000 = u at *
  generalize x0 / 16000 = e at *
  obtain ⟨W3, hW3, hW3z, HBw, HH3, HT3, HR3⟩ := boxes3 w1 [.int .i64 1, .int .i64 u, .int .i64 0, .int .i64 e] [.int .i64 1, .int .i64 u, .int .i64 0, .int .i64 e, .int .i64 0, .bool false, .int .i64 0, .string ⟨#[]⟩, .int .i64 0, .slice none 0 0] [.int .i64 0, .slice (some ⟨b, o, none⟩) 8 c] 40 44 153
  have HX3 := hide ((unhide HX1).below (unhide HBw))
  have HB3 := hide (below_step (unhide HB1) (unhide HBw) (by omega))
  have H3 := hide ((unhide H1).below (unhide HBw))
  have z3 : w1.heap.size + 1 + 1 < W3.heap.size := by omega
  clear HX1 HB1 H1
  go_wp2_with fail
  rw [← hW3]
  clear hW3
  obtain ⟨-, -, -, hbl, -, d1, d2, d3, d4⟩ := at8' (unhide H3)
  have HT3d := hide (unhide HT3).drew
  have hh1 := (unhide HH3).drew.cell 1
  simp only [List.getElem?_cons_zero, List.getElem?_cons_succ] at hh1
  generalize hr4 : w1.heap.size = r4 at *
  have HR4E := hide hr4
  clear hr4
  obtain ⟨r6, hr6⟩ : ∃ r6, r6 = r4 + 1 := ⟨_, rfl⟩
  have HR6E := hide hr6
  have k0 : b < W3.heap.size ∧ b ≠ r6 := ⟨by omega, by omega⟩
  have k4 : r4 < W3.heap.size ∧ r4 ≠ r6 := ⟨by omega, by omega⟩
  have HS : Hid (Out (fun q => q = r6) W3 W3.drew ∧ W3.drew.cell? ⟨b, o + 1, none⟩ = some (.int .i64 x1) ∧ W3.drew.cell? ⟨b, o + 2, none⟩ = some (.int .i64 x2) ∧ W3.drew.cell? ⟨b, o + 3, none⟩ = some (.int .i64 x3) ∧ W3.drew.cell? ⟨b, o + 4, none⟩ = some (.int .i64 x4) ∧ W3.drew.cell? ⟨r4, 1, none⟩ = some (.int .i64 u) ∧ W3.drew.cell? ⟨r6, 4, none⟩ = some (cv W3.drew r6 4) ∧ W3.drew.cell? ⟨r6, 5, none⟩ = some (cv W3.drew r6 5) ∧ W3.drew.cell? ⟨r6, 6, none⟩ = some (cv W3.drew r6 6) ∧ W3.drew.cell? ⟨r6, 7, none⟩ = some (cv W3.drew r6 7) ∧ W3.drew.cell? ⟨r6, 8, none⟩ = some (cv W3.drew r6 8) ∧ W3.drew.frozen? ⟨r6, 4, none⟩ = false ∧ W3.drew.frozen? ⟨r6, 5, none⟩ = false ∧ W3.drew.frozen? ⟨r6, 6, none⟩ = false ∧ W3.drew.frozen? ⟨r6, 7, none⟩ = false ∧ W3.drew.frozen? ⟨r6, 8, none⟩ = false ∧ r6 < W3.drew.heap.size) := by
    rw [hr6]
    exact ⟨⟨rfl, rfl, rfl, Nat.le_refl _, fun _ _ _ => rfl⟩, d1, d2, d3, d4, hh1, cv_some ((unhide HT3d).cell 4), cv_some ((unhide HT3d).cell 5), cv_some ((unhide HT3d).cell 6), cv_some ((unhide HT3d).cell 7), cv_some ((unhide HT3d).cell 8), (unhide HT3d).frozen 4, (unhide HT3d).frozen 5, (unhide HT3d).frozen 6, (unhide HT3d).frozen 7, (unhide HT3d).frozen 8, (unhide HT3d).lt⟩
  rw [← hr6] at HT3d HT3 HR3 ⊢
  clear d1 d2 d3 d4 hh1 hr6
  generalize hxe : (x1 == 1) = xe at *
  have HXE := hide hxe
  go_region_held3 (fun w' => Out (fun q => q = r6) W3 w' ∧ w'.cell? ⟨b, o + 1, none⟩ = some (.int .i64 x1) ∧ w'.cell? ⟨b, o + 2, none⟩ = some (.int .i64 x2) ∧ w'.cell? ⟨b, o + 3, none⟩ = some (.int .i64 x3) ∧ w'.cell? ⟨b, o + 4, none⟩ = some (.int .i64 x4) ∧ w'.cell? ⟨r4, 1, none⟩ = some (.int .i64 u) ∧ w'.cell? ⟨r6, 4, none⟩ = some (cv w' r6 4) ∧ w'.cell? ⟨r6, 5, none⟩ = some (cv w' r6 5) ∧ w'.cell? ⟨r6, 6, none⟩ = some (cv w' r6 6) ∧ w'.cell? ⟨r6, 7, none⟩ = some (cv w' r6 7) ∧ w'.cell? ⟨r6, 8, none⟩ = some (cv w' r6 8) ∧ w'.frozen? ⟨r6, 4, none⟩ = false ∧ w'.frozen? ⟨r6, 5, none⟩ = false ∧ w'.frozen? ⟨r6, 6, none⟩ = false ∧ w'.frozen? ⟨r6, 7, none⟩ = false ∧ w'.frozen? ⟨r6, 8, none⟩ = false ∧ r6 < w'.heap.size) (first | with_reducible exact unhide HS | with_reducible exact QS_below k0 k0 k0 k0 k4 (by assumption) (by assumption) | with_reducible exact QS_set k0 k0 k0 k0 k4 (by assumption))
    (first
      | (go_at_call 89; refine (l1WordName_nm _ _ hx3.1 hx3.2).mono ?_; rintro r w5 ⟨rfl, hb5⟩))
  rename_i hSF
  have OU := hide (QS_out hSF)
  clear hSF
  have XU : Hid (Box (((((w5.setCell ⟨r6, 4, none⟩ (.int .i64 u)).setCell ⟨r6, 5, none⟩ (.bool xe)).setCell ⟨r6, 6, none⟩ (.int .i64 x2)).setCell ⟨r6, 7, none⟩ (.string (nmOf x3))).setCell ⟨r6, 8, none⟩ (.int .i64 x4)) r6 [.int .i64 1, .int .i64 u, .int .i64 0, .int .i64 e, .int .i64 u, .bool xe, .int .i64 x2, .string (nmOf x3), .int .i64 x4, .slice none 0 0] 44) := (((((unhide HT3d).below hb5).set 4 (.int .i64 u)).set 5 (.bool xe)).set 6 (.int .i64 x2)).set 7 (.string (nmOf x3)) |>.set 8 (.int .i64 x4)
  clear hb5
  generalize hU0 : ((((w5.setCell _ _).setCell _ _).setCell _ _).setCell _ _).setCell _ _ = U0 at *
  clear hU0
  have hr6 := unhide HR6E
  subst hr6
  have hr4 := unhide HR4E
  subst hr4
  have HX4 := hide ((unhide HX3).out (unhide OU) (by show ¬ w.heap.size = w1.heap.size + 1; omega))
  have HR4 := hide ((unhide HR3).out (unhide OU) (by show ¬ w1.heap.size + 1 + 1 = w1.heap.size + 1; omega))
  have HH4 := hide ((unhide HH3).out (unhide OU) (by show ¬ w1.heap.size = w1.heap.size + 1; omega))
  have H4 := hide ((unhide OU).ints (unhide H3) (fun x hx e => by cases hx; simp at e; omega))
  have HB4 := hide ((unhide OU).below (unhide HB3) (Nat.le_refl _) (fun q hq e => by omega))
  have z3v : w1.heap.size + 1 + 1 < U0.heap.size := by have := (unhide OU).size; omega
  clear HX3 HR3 HH3 H3 HB3 HT3 HT3d OU HS
  have HX3 := HX4
  have HR3 := HR4
  have HT3 := XU
  have H3 := H4
  have HB3 := HB4
  clear HX4 HR4 XU H4 HB4
  have t4 := (unhide HT3).cell 4
  have t5 := (unhide HT3).cell 5
  have t6 := (unhide HT3).cell 6
  have t7 := (unhide HT3).cell 7
  have t8 := (unhide HT3).cell 8
  have hh3 := (unhide HH4).cell 3
  simp only [List.getElem?_cons_zero, List.getElem?_cons_succ] at t4 t5 t6 t7 t8 hh3
  go_wp2_with fail
  clear t4 t5 t6 t7 t8 hh3 HH4
  refine (specPackNode_any u xe x2 (nmOf x3) x4 e _ (nmOf_size x3)).mono ?_
  rintro r w4 ⟨⟨v, rfl, ho⟩, hb4⟩
  obtain ⟨a4, c4, rfl, -, -, -, -⟩ := intsAt_own ho
  have A := hide (intsAt_own1 ho)
  have LA : Hid (∀ x, a4 = some x → w1.heap.size + 1 + 1 < x.block) := fun x hx => by
    have := ho.lt x.block (by rw [hx]; rfl)
    omega
  have HX := hide ((unhide HX3).below hb4)
  have HT := hide ((unhide HT3).below hb4)
  have HR := hide ((unhide HR3).below hb4)
  have H := hide ((unhide H3).below hb4)
  have HB := hide (below_step (unhide HB3) hb4 (by omega))
  have z4 : w1.heap.size + 1 + 1 < w4.heap.size := by have := hb4.size; omega
  clear hb4 ho HX3 HT3 HR3 H3 HB3
  generalize hcd : nodePCode u xe x2 (nmOf x3).data.toList x4 e = cd at *
  generalize hwd : nodeWords u xe x2 (nmOf x3).data.toList x4 e = wd at *
  have hwl : wd.length ≤ 1048576 := by rw [← hwd]; exact nodeWords_len _ _ _ _ _ _
  clear hcd hwd
  have r0 := (unhide HR).cell 0
  have r1 := (unhide HR).cell 1
  have g0 := (unhide HR).frozen 0
  have g1 := (unhide HR).frozen 1
  simp only [List.getElem?_cons_zero, List.getElem?_cons_succ] at r0 r1
  by_cases hc : cd = 0
  · have hcb : (cd != 0) = false := by simpa using hc
    have HC0 := hide hc
    clear hc
    go_wp2_with fail
    generalize hU : ((w4.setCell ⟨w1.heap.size + 1 + 1, 0, none⟩ (.int .i64 cd)).setCell ⟨w1.heap.size + 1 + 1, 1, none⟩ (.slice a4 wd.length c4)) = U at *
    obtain ⟨HRU, HOU⟩ := store2' (unhide HR) hU
    have HXU := hide ((unhide HX).out (unhide HOU) (by show ¬ w.heap.size = w1.heap.size + 1 + 1; omega))
    have HTU := hide ((unhide HT).out (unhide HOU) (by show ¬ w1.heap.size + 1 = w1.heap.size + 1 + 1; omega))
    have HBU := hide ((unhide HOU).below (unhide HB) (Nat.le_refl _) (fun q hq e => by omega))
    have HIU := hide ((unhide HOU).ints (unhide H) (fun x hx e => by cases hx; simp at e; omega))
    have HAU := hide ((unhide HOU).ints (unhide A) (fun x hx e => by have := unhide LA x hx; omega))
    have zU : w4.heap.size ≤ U.heap.size := (unhide HOU).size
    clear hU HOU HR HX HT HB H A r0 r1 g0 g1 HRU
    refine (l1Same_any a4 (some ⟨b, o, none⟩) c4 c wd [x0, x1, x2, x3, x4, x5, x6, x7] _ (unhide HAU) (unhide HIU) hwl).mono ?_
    rintro r w5 ⟨rfl, hb5⟩
    have HX5 := hide ((unhide HXU).below hb5)
    have HT5 := hide ((unhide HTU).below hb5)
    have HB5 := hide (below_step (unhide HBU) hb5 (by omega))
    clear hb5 HXU HTU HBU HIU HAU
    by_cases heq : wd = [x0, x1, x2, x3, x4, x5, x6, x7]
    · have hd : decide (wd = [x0, x1, x2, x3, x4, x5, x6, x7]) = true := by simpa using heq
      rw [hd]
      have HC : Hid (readCode [x0, x1, x2, x3, x4, x5, x6, x7] = 0) := by rw [Hid, unhide HRD, if_pos ⟨unhide HC0, heq⟩]
      have HC2 : Hid (readBlk [x0, x1, x2, x3, x4, x5, x6, x7] = ⟨1, u, 0, e, u, xe, x2, nmOf x3, x4, []⟩) := by rw [Hid, unhide HBK, if_pos (unhide HC)]
      clear hd heq
      go_wp2_with (first | (refine wpList_load_part rfl 44 (.tmp 6) rfl (w1.heap.size + 1) 0 rfl 44 _ [.int .i64 1, .int .i64 u, .int .i64 0, .int .i64 e, .int .i64 u, .bool xe, .int .i64 x2, .string (nmOf x3), .int .i64 x4, .slice none 0 0] (unhide HT5) rfl _ Tryz.underlying44 rfl (by kernel_rfl) ?_) | (refine wpList_store_part rfl 44 (.tmp 2) (.tmp 82) rfl w.heap.size 0 _ rfl rfl 44 _ (unhide HX5) (by kernel_rfl) (by simp) (by simp [Value.oneCell']) ?_; intro wZ XZ OZ))
      have XR : Hid (Box wZ w.heap.size [.int .i64 1, .int .i64 u, .int .i64 0, .int .i64 e, .int .i64 u, .bool xe, .int .i64 x2, .string (nmOf x3), .int .i64 x4, .slice none 0 0] 44) := XZ
      have BR : Hid (Below w.heap.size w wZ) := (unhide OZ).below (unhide HB5) (Nat.le_refl _) (fun q hq e => by omega)
      refine bodyPost_ret (results_cell_tmp Tryz.results61 _ wZ w.heap.size 44 _ (0, 0) _ _ rfl rfl (unhide XR) Tryz.underlying44 rfl (by kernel_rfl)) rfl ⟨?_, unhide BR⟩
      rw [unhide HC, unhide HC2]
      exact ⟨_, rfl, World.ownsRow_nil _ _ _ _⟩
    · have hd : decide (wd = [x0, x1, x2, x3, x4, x5, x6, x7]) = false := by simpa using heq
      rw [hd]
      have HC : Hid (readCode [x0, x1, x2, x3, x4, x5, x6, x7] = 5) := by rw [Hid, unhide HRD, if_neg (fun hh => heq hh.2)]
      have HC2 : Hid (readBlk [x0, x1, x2, x3, x4, x5, x6, x7] = Blk.none) := by rw [Hid, unhide HBK, if_neg (by rw [unhide HC]; decide)]
      clear hd heq
      go_wp2_with (first | (refine wpList_store_part rfl 44 (.tmp 2) (.tmp 81) rfl w.heap.size 0 _ rfl rfl 44 _ (unhide HX5) (by kernel_rfl) (by simp) (by simp [Value.oneCell']) ?_; intro wZ XZ OZ))
      have XR : Hid (Box wZ w.heap.size [.int .i64 0, .int .i64 0, .int .i64 0, .int .i64 0, .int .i64 0, .bool false, .int .i64 0, .string ⟨#[]⟩, .int .i64 0, .slice none 0 0] 44) := XZ
      have BR : Hid (Below w.heap.size w wZ) := (unhide OZ).below (unhide HB5) (Nat.le_refl _) (fun q hq e => by omega)
      refine bodyPost_ret (results_cell_tmp Tryz.results61 _ wZ w.heap.size 44 _ (0, 0) _ _ rfl rfl (unhide XR) Tryz.underlying44 rfl (by kernel_rfl)) rfl ⟨?_, unhide BR⟩
      rw [unhide HC, unhide HC2]
      exact ⟨_, rfl, World.ownsRow_nil _ _ _ _⟩
  · have hcb : (cd != 0) = true := by simpa using hc
    have HC : Hid (readCode [x0, x1, x2, x3, x4, x5, x6, x7] = 5) := by rw [Hid, unhide HRD, if_neg (fun hh => hc hh.1)]
    have HC2 : Hid (readBlk [x0, x1, x2, x3, x4, x5, x6, x7] = Blk.none) := by rw [Hid, unhide HBK, if_neg (by rw [unhide HC]; decide)]
    clear hc
    go_wp2_with (first | (refine wpList_store_part rfl 44 (.tmp 2) (.tmp 81) rfl w.heap.size 0 _ rfl rfl 44 _ (((unhide HX).set_other (p := ⟨w1.heap.size + 1 + 1, 0, none⟩) (by show w.heap.size ≠ w1.heap.size + 1 + 1; omega) _).set_other (p := ⟨w1.heap.size + 1 + 1, 1, none⟩) (by show w.heap.size ≠ w1.heap.size + 1 + 1; omega) _) (by kernel_rfl) (by simp) (by simp [Value.oneCell']) ?_; intro wZ XZ OZ))
    have XR : Hid (Box wZ w.heap.size [.int .i64 0, .int .i64 0, .int .i64 0, .int .i64 0, .int .i64 0, .bool false, .int .i64 0, .string ⟨#[]⟩, .int .i64 0, .slice none 0 0] 44) := XZ
    have BR : Hid (Below w.heap.size w wZ) := (unhide OZ).below (((unhide HB).setCell (p := ⟨w1.heap.size + 1 + 1, 0, none⟩) (by show w.heap.size ≤ w1.heap.size + 1 + 1; omega) _).setCell (p := ⟨w1.heap.size + 1 + 1, 1, none⟩) (by show w.heap.size ≤ w1.heap.size + 1 + 1; omega) _) (Nat.le_refl _) (fun q hq e => by omega)
    refine bodyPost_ret (results_cell_tmp Tryz.results61 _ wZ w.heap.size 44 _ (0, 0) _ _ rfl rfl (unhide XR) Tryz.underlying44 rfl (by kernel_rfl)) rfl ⟨?_, unhide BR⟩
    rw [unhide HC, unhide HC2]
    exact ⟨_, rfl, World.ownsRow_nil _ _ _ _⟩
end Go.Proofs.YtiopofemelninaaGreat
/-
  What spec.ReadBlock answers.
-/
namespace Go.Proofs.YtiopofemelninaaGreat
open Go.RowKit
set_option linter.unusedVariables false

set_option maxRecDepth 20000 in
set_option maxHeartbeats 4000000 in
theorem l3Read_free (a : Option Addr) (c : Nat) (x0 x1 x2 x3 x4 x5 x6 x7 : Int) (w : World) (h : IntsAt w a [x0, x1, x2, x3, x4, x5, x6, x7]) (hok : whOk x0 = true) (hk : x0 % 4 = 0) :
    Calls Tryz.prog 61 #[.slice a 8 c] w fun r w' => TRes w.heap.size w' r (readCode [x0, x1, x2, x3, x4, x5, x6, x7]) (readBlk [x0, x1, x2, x3, x4, x5, x6, x7]) ∧ Below w.heap.size w w' := by
  have HC : Hid (readCode [x0, x1, x2, x3, x4, x5, x6, x7] = 0) := by rw [Hid, readCode, if_pos hok, if_pos hk]
  have HC2 : Hid (readBlk [x0, x1, x2, x3, x4, x5, x6, x7] = Blk.none) := by
    have hbk : readBlk [x0, x1, x2, x3, x4, x5, x6, x7] = if readCode [x0, x1, x2, x3, x4, x5, x6, x7] = 0 then toldBlk x0 x1 x2 x3 x4 else Blk.none := rfl
    rw [Hid, hbk, if_pos (unhide HC)]
    unfold toldBlk; simp [hk]
  have hz : x0 / 16 % 1000 = 0 ∧ x0 / 4 % 4 = 0 ∧ x0 / 16000 = 0 := by
    simp only [whOk, Bool.and_eq_true, headOk, hk] at hok
    simpa [and_assoc] using hok.2
  have HK := hide hk
  have HZ := hide hz
  have HOK := hide hok
  obtain ⟨W, hW, hWz, HB0, HX0⟩ := boxes1 w [.int .i64 0, .int .i64 0, .int .i64 0, .int .i64 0, .int .i64 0, .bool false, .int .i64 0, .string ⟨#[]⟩, .int .i64 0, .slice none 0 0] 44
  obtain ⟨b, o, rfl, hb, q0, -⟩ := at8 h
  have H0 := hide (h.below (unhide HB0))
  have p0 : W.cell? ⟨b, o, none⟩ = some (.int .i64 x0) := ((bcell (unhide HB0)).1 _ _ hb).trans q0
  clear h hok hk hz
  go_enter Tryz.func61, Tryz.ntmps61
  go_wp2_with fail
  rw [← hW]
  clear hW q0
  refine (l1Head_any x0 _ (unhide HOK)).mono ?_
  rintro r w1 ⟨rfl, hb1⟩
  rw [unhide HK, (unhide HZ).1, (unhide HZ).2.1, (unhide HZ).2.2]
  have HX1 := hide ((unhide HX0).below hb1)
  have HB1 := hide (below_step (unhide HB0) hb1 (by omega))
  have H1 := hide ((unhide H0).below hb1)
  have z1 : w.heap.size < w1.heap.size := by have := hb1.size; omega
  clear hb1 HX0 HB0 H0 p0
  obtain ⟨W3, hW3, hW3z, HBw, HH3, HT3, HR3⟩ := boxes3 w1 [.int .i64 0, .int .i64 0, .int .i64 0, .int .i64 0] [.int .i64 0, .int .i64 0, .int .i64 0, .int .i64 0, .int .i64 0, .bool false, .int .i64 0, .string ⟨#[]⟩, .int .i64 0, .slice none 0 0] [.int .i64 0, .slice (some ⟨b, o, none⟩) 8 c] 40 44 153
  have HX3 := hide ((unhide HX1).below (unhide HBw))
  have HB3 := hide (below_step (unhide HB1) (unhide HBw) (by omega))
  have H3 := hide ((unhide H1).below (unhide HBw))
  have z3 : w1.heap.size + 1 + 1 < W3.heap.size := by omega
  clear HX1 HB1 H1
  go_wp2_with fail
  rw [← hW3]
  clear hW3
  refine (l1Same_any (some ⟨b, o, none⟩) (some ⟨b, o, none⟩) c c [x0, x1, x2, x3, x4, x5, x6, x7] [x0, x1, x2, x3, x4, x5, x6, x7] _ (unhide H3) (unhide H3) (by simp)).mono ?_
  rintro r w5 ⟨rfl, hb5⟩
  have HX5 := hide ((unhide HX3).below hb5)
  have HT5 := hide ((unhide HT3).below hb5)
  have HB5 := hide (below_step (unhide HB3) hb5 (by omega))
  clear hb5
  have hd : decide ([x0, x1, x2, x3, x4, x5, x6, x7] = [x0, x1, x2, x3, x4, x5, x6, x7]) = true := by simp
  rw [hd]
  clear hd
  go_wp2_with (first | (refine wpList_load_part rfl 44 (.tmp 6) rfl (w1.heap.size + 1) 0 rfl 44 _ [.int .i64 0, .int .i64 0, .int .i64 0, .int .i64 0, .int .i64 0, .bool false, .int .i64 0, .string ⟨#[]⟩, .int .i64 0, .slice none 0 0] (unhide HT5) rfl _ Tryz.underlying44 rfl (by kernel_rfl) ?_) | (refine wpList_store_part rfl 44 (.tmp 2) (.tmp 82) rfl w.heap.size 0 _ rfl rfl 44 _ (unhide HX5) (by kernel_rfl) (by simp) (by simp [Value.oneCell']) ?_; intro wZ XZ OZ))
  have XR : Hid (Box wZ w.heap.size [.int .i64 0, .int .i64 0, .int .i64 0, .int .i64 0, .int .i64 0, .bool false, .int .i64 0, .string ⟨#[]⟩, .int .i64 0, .slice none 0 0] 44) := XZ
  have BR : Hid (Below w.heap.size w wZ) := (unhide OZ).below (unhide HB5) (Nat.le_refl _) (fun q hq e => by omega)
  refine bodyPost_ret (results_cell_tmp Tryz.results61 _ wZ w.heap.size 44 _ (0, 0) _ _ rfl rfl (unhide XR) Tryz.underlying44 rfl (by kernel_rfl)) rfl ⟨?_, unhide BR⟩
  rw [unhide HC, unhide HC2]
  exact ⟨_, rfl, World.ownsRow_nil _ _ _ _⟩

theorem l3Read_any (a : Option Addr) (c : Nat) (hc8 : 8 ≤ c) (x0 x1 x2 x3 x4 x5 x6 x7 : Int) (hx3 : -9223372036854775808 ≤ x3 ∧ x3 ≤ 9223372036854775807) (w : World) (h : IntsAt w a [x0, x1, x2, x3, x4, x5, x6, x7]) :
    Calls Tryz.prog 61 #[.slice a 8 c] w fun r w' => TRes w.heap.size w' r (readCode [x0, x1, x2, x3, x4, x5, x6, x7]) (readBlk [x0, x1, x2, x3, x4, x5, x6, x7]) ∧ Below w.heap.size w w' := by
  cases hok : whOk x0
  · exact l3Read_form a c x0 x1 x2 x3 x4 x5 x6 x7 w h hok
  · rcases (show x0 % 4 = 0 ∨ x0 % 4 = 1 ∨ x0 % 4 = 2 ∨ x0 % 4 = 3 by omega) with h1 | h1 | h1 | h1
    · exact l3Read_free a c x0 x1 x2 x3 x4 x5 x6 x7 w h hok h1
    · exact l3Read_node a c hc8 x0 x1 x2 x3 x4 x5 x6 x7 hx3 w h hok h1
    · exact l3Read_piece a c hc8 x0 x1 x2 x3 x4 x5 x6 x7 w h hok h1
    · exact l3Read_gone a c hc8 x0 x1 x2 x3 x4 x5 x6 x7 w h hok h1
end Go.Proofs.YtiopofemelninaaGreat
/-
  What spec.l4Versions answers.
-/
namespace Go.Proofs.YtiopofemelninaaGreat
open Go.RowKit
set_option linter.unusedVariables false

theorem ints_step {w : World} {b o : Nat} {ws : List Int} (h : IntsAt w (some ⟨b, o, none⟩) ws) {k : Nat} (hk : 8 * k + 8 ≤ ws.length) : IntsAt w (some ⟨b, o + k * 8, none⟩) ((ws.drop (8 * k)).take 8) ∧ ((ws.drop (8 * k)).take 8).length = 8 := by
  have := ints_line h hk
  rwa [Nat.mul_comm 8 k] at this ⊢
def VersIs (e : Ending) (base : Nat) (w' : World) (code : Int) (V : List Ver) : Prop := ∃ v L, e = .returned (.tuple #[v, .int .i64 code]) ∧ VOwn w' base v L ∧ L.map VerA.ver = V
set_option maxRecDepth 20000 in
set_option maxHeartbeats 4000000 in
theorem l4Versions_any (a : Option Addr) (c : Nat) (ws : List Int) (clock : Int) (w : World) (h : IntsAt w a ws) (hcl : ws.length ≤ c) (hcm : c ≤ 10000000) (hsz : sizeOk ws.length = true) (hal : allWords ws = true) (hv1 : 2 ≤ clock) (hv2 : clock ≤ 9999) :
    Calls Tryz.prog 36 #[.slice a ws.length c, .int .i64 clock] w fun e w' => VersIs e w.heap.size w' (imgRun clock (ws.length / 8 - 1) 1 (ws.drop 8)).1 (imgRun clock (ws.length / 8 - 1) 1 (ws.drop 8)).2.1 ∧ Below w.heap.size w w' := by
  obtain ⟨i0, hii, hz0, hz1, hz2⟩ := info_parts infoVer
  have hsz' : 16 ≤ ws.length ∧ ws.length % 8 = 0 ∧ ws.length ≤ 328 := by simp [sizeOk] at hsz; omega
  obtain ⟨b, o, rfl, hb, -⟩ := h.at (k := 0) (by omega)
  obtain ⟨T, hT⟩ : ∃ T, T = imgRun clock (ws.length / 8 - 1) 1 (ws.drop 8) := ⟨_, rfl⟩
  have HS0 : Hid (Sofar T (imgRun clock (ws.length / 8 - 1) 1 (ws.drop (8 * 1))) [] []) := by rw [hT]; exact sofar_start _ imgRun_bad
  rw [← hT]
  have H := hide h
  have HAL := hide hal
  clear hT h hsz hal
  have htd : (ws.length : Int).tdiv 8 = (ws.length : Int) / 8 := Int.tdiv_eq_ediv_of_nonneg (by omega)
  have hdv : -9223372036854775808 ≤ (ws.length : Int) / 8 ∧ (ws.length : Int) / 8 ≤ 9223372036854775807 := by omega
  have HV0 : Hid (VOwn (w.alloc (.cells #[] 46)) w.heap.size (.slice (some ⟨w.heap.size, 0, none⟩) 0 0) []) := ⟨World.ownsRow_made (base := w.heap.size) (e := 46) (size := 11) w #[] 0 (Nat.le_refl _) (by unfold maxLen; omega) rfl, fun x hx => (by cases hx), fun x hx => (by cases hx), List.Pairwise.nil⟩
  go_enter Tryz.func36, Tryz.ntmps36
  go_wp2_with fail
  go_loopw [6, 7] (fun v i wr => ∃ (k : Nat) (va : Option Addr) (vc : Nat) (L : List VerA) (F : List Int), 1 ≤ k ∧ 8 * k ≤ ws.length ∧ i = .int .i64 k ∧ v = .slice va L.length vc ∧ L.length ≤ k ∧ Hid (VOwn wr w.heap.size (.slice va L.length vc) L) ∧ Hid (Sofar T (imgRun clock (ws.length / 8 - k) k (ws.drop (8 * k))) (L.map VerA.ver) F) ∧ Hid (Below w.heap.size w wr)) (fun _ i _ => ws.length - (intOf i).toNat)
  case atStart => exact ⟨1, _, 0, [], [], Nat.le_refl _, by omega, rfl, rfl, by simp, HV0, HS0, (Below.refl _ _).alloc (Nat.le_refl _) _⟩
  case round =>
    obtain ⟨k, va, vc, L, F, hk1, hk2, rfl, rfl, hL, HV, HS, HB⟩ := hrel
    clear HV0 HS0
    have hwz := (unhide HB).size
    by_cases hlt : 8 * k + 8 ≤ ws.length
    · obtain ⟨hil, hll⟩ := ints_step ((unhide H).below (unhide HB)) hlt
      obtain ⟨x0, x1, x2, x3, x4, x5, x6, x7, hx⟩ := eight hll
      have hxm : ∀ x ∈ (ws.drop (8 * k)).take 8, 0 ≤ x ∧ x ≤ 999999999999999 := fun x hx => by
        have h1 := unhide HAL
        rw [allWords, List.all_eq_true] at h1
        exact inB_true.1 (h1 x (List.mem_of_mem_drop (List.mem_of_mem_take hx)))
      have hm : ws.length / 8 - k = (ws.length / 8 - k - 1) + 1 := by omega
      have HS1 : Hid (Sofar T (imgRun clock ((ws.length / 8 - k - 1) + 1) k (ws.drop (8 * k))) (L.map VerA.ver) F) := by rw [← hm]; exact HS
      have hs8 : ws.length / 8 - (k + 1) = ws.length / 8 - k - 1 := by omega
      have stepS : ∀ L2 : List VerA, stepCode clock [x0, x1, x2, x3, x4, x5, x6, x7] = 0 → L2.map VerA.ver = L.map VerA.ver ++ stepVers clock k [x0, x1, x2, x3, x4, x5, x6, x7] → Sofar T (imgRun clock (ws.length / 8 - (k + 1)) (k + 1 : Nat) (ws.drop (8 * (k + 1)))) (L2.map VerA.ver) (F ++ stepFree k [x0, x1, x2, x3, x4, x5, x6, x7]) := fun L2 h0 h1 => by
        have h2 := sofar_step (unhide HS1) (by rw [hx]; exact h0)
        rw [hx, ← h1, List.drop_drop] at h2
        rw [hs8, show 8 * (k + 1) = 8 * k + 8 by omega]
        simpa using h2
      have stopS : stepCode clock [x0, x1, x2, x3, x4, x5, x6, x7] ≠ 0 → T.1 = stepCode clock [x0, x1, x2, x3, x4, x5, x6, x7] ∧ T.2.1 = [] ∧ T.2.2 = [] := fun h0 => by
        have h2 := sofar_stop (unhide HS1) (by rw [hx]; exact h0)
        rwa [hx] at h2
      rw [hx] at hil hxm
      have hb3 : -9223372036854775808 ≤ x3 ∧ x3 ≤ 9223372036854775807 := by have := hxm x3 (by simp); omega
      have HIL := hide hil
      obtain ⟨b', o', eb, hbw, q0, -⟩ := at8 hil
      cases eb
      have SS := hide stepS
      have SP := hide stopS
      have k8 : (k : Int) < (ws.length : Int) / 8 := by omega
      have lo : (0 : Int) ≤ (k : Int) * 8 := by omega
      have hi1 : ((k : Int) + 1) * 8 ≤ c := by omega
      have hk8 : k * 8 < c := by omega
      have hx0 := hxm x0 (by simp)
      clear hil stepS stopS hxm HS HS1 hm hs8 hx hll
      cases hok : whOk x0
      · have hs : stepCode clock [x0, x1, x2, x3, x4, x5, x6, x7] = 1 := by simp [stepCode, hok]
        have HR := hide (unhide SP (by rw [hs]; decide))
        rw [hs] at HR
        have HOK := hide hok
        clear hs hok SS SP
        go_wp2_with fail
        refine (l1Head_none x0 _ (unhide HOK)).mono ?_
        rintro r w1 ⟨⟨hk', hu', hi', he', rfl⟩, hb1⟩
        have B1 := hide (below_step (unhide HB) hb1 hwz)
        clear hb1 q0
        go_wp2_with fail
        refine bodyPost_ret (v := .tuple #[.slice none 0 0, .int .i64 1]) (by simp [results, Tryz.results36, go_sem]) rfl ⟨?_, (unhide B1).alloc (unhide B1).size _⟩
        rw [(unhide HR).1, (unhide HR).2.1]
        exact ⟨_, [], rfl, vown_nil _ _, rfl⟩
      have HOK := hide hok
      by_cases hk0 : x0 % 4 = 0
      · have hs : stepCode clock [x0, x1, x2, x3, x4, x5, x6, x7] = 0 := by simp [stepCode, hok, hk0]
        have hve : stepVers clock k [x0, x1, x2, x3, x4, x5, x6, x7] = [] := by simp [stepVers, hk0]
        have HSN := hide (unhide SS L hs (by rw [hve, List.append_nil]))
        generalize hFF : F ++ stepFree (k : Int) [x0, x1, x2, x3, x4, x5, x6, x7] = F2 at *
        have hkb : (x0 % 4 == 0) = true := by simpa using hk0
        clear hFF hs hve SS SP hk0 hok
        go_wp2_with fail
        refine (l1Head_any x0 _ (unhide HOK)).mono ?_
        rintro r w1 ⟨rfl, hb1⟩
        have B1 := hide ((below_step (unhide HB) hb1 hwz).alloc (by have := hb1.size; omega) (.cells #[.int .i64 (x0 % 4), .int .i64 (x0 / 16 % 1000), .int .i64 (x0 / 4 % 4), .int .i64 (x0 / 16000)] 40))
        have V1 := hide (((unhide HV).below hb1).below ((Below.refl _ w1).alloc (Nat.le_refl _) (.cells #[.int .i64 (x0 % 4), .int .i64 (x0 / 16 % 1000), .int .i64 (x0 / 4 % 4), .int .i64 (x0 / 16000)] 40)))
        clear hb1 q0
        go_wp2_with fail
        go_roundw
        case rel => exact ⟨k + 1, va, vc, L, F2, by omega, by omega, by go_num, rfl, by omega, V1, HSN, B1⟩
        case measure => simp [intOf]; omega
      have hkb : (x0 % 4 == 0) = false := by simpa using hk0
      have hvl : L.length ≤ 1000 := by omega
      cases hsu : sureB clock x0
      · have hs : stepCode clock [x0, x1, x2, x3, x4, x5, x6, x7] = 0 := by simp [stepCode, hok, hk0, hsu]
        have hve : stepVers clock k [x0, x1, x2, x3, x4, x5, x6, x7] = [((k : Int), headBlk x0)] := by simp [stepVers, hk0, hsu]
        have HSN := hide (unhide SS (L ++ [⟨k, headBlk x0, none, 0⟩]) hs (by rw [hve, List.map_append]; rfl))
        generalize hFF : F ++ stepFree (k : Int) [x0, x1, x2, x3, x4, x5, x6, x7] = F2 at *
        have hdec : ¬ x0 / 16000 ≤ clock - 2 := by simpa [sureB] using hsu
        clear hFF hs hve SS SP hsu hk0 hok
        go_wp2_with fail
        refine (l1Head_any x0 _ (unhide HOK)).mono ?_
        rintro r w1 ⟨rfl, hb1⟩
        have z1 := hb1.size
        obtain ⟨W, hW, z2, hb2, hx2, hy2⟩ := boxes2 w1 [.int .i64 (x0 % 4), .int .i64 (x0 / 16 % 1000), .int .i64 (x0 / 4 % 4), .int .i64 (x0 / 16000)] [.int .i64 (x0 % 4), .int .i64 (x0 / 16 % 1000), .int .i64 (x0 / 4 % 4), .int .i64 (x0 / 16000), .int .i64 0, .bool false, .int .i64 0, .string ⟨#[]⟩, .int .i64 0, .slice none 0 0] 40 44
        have BW := hide (below_step (below_step (unhide HB) hb1 hwz) (unhide hb2) (by omega))
        have VW := hide (((unhide HV).below hb1).below (unhide hb2))
        have VA := hide ((unhide VW).below ((Below.refl _ W).alloc (Nat.le_refl _) (.cells #[.int .i64 (k : Int), .int .i64 (x0 % 4), .int .i64 (x0 / 16 % 1000), .int .i64 (x0 / 4 % 4), .int .i64 (x0 / 16000), .int .i64 0, .bool false, .int .i64 0, .string ⟨#[]⟩, .int .i64 0, .slice none 0 0] 46)))
        have RA : Hid (RowAt (W.alloc (.cells #[.int .i64 (k : Int), .int .i64 (x0 % 4), .int .i64 (x0 / 16 % 1000), .int .i64 (x0 / 4 % 4), .int .i64 (x0 / 16000), .int .i64 0, .bool false, .int .i64 0, .string ⟨#[]⟩, .int .i64 0, .slice none 0 0] 46)) (some ⟨w1.heap.size + 1 + 1, 0, none⟩) (VerA.cells ⟨k, headBlk x0, none, 0⟩)) := by
          have := rowAt_fresh W [.int .i64 (k : Int), .int .i64 (x0 % 4), .int .i64 (x0 / 16 % 1000), .int .i64 (x0 / 4 % 4), .int .i64 (x0 / 16000), .int .i64 0, .bool false, .int .i64 0, .string ⟨#[]⟩, .int .i64 0, .slice none 0 0] 46
          rw [show W.heap.size = w1.heap.size + 1 + 1 by rw [hW, World.size_alloc, World.size_alloc]] at this
          exact this
        have YW := hy2
        rw [hW] at VA RA YW
        clear hb1 q0 hb2 hx2 hy2
        go_wp2_with (first
          | (refine wpList_load_part rfl 44 (.tmp 11) rfl (w1.heap.size + 1) 0 rfl 44 _ [.int .i64 (x0 % 4), .int .i64 (x0 / 16 % 1000), .int .i64 (x0 / 4 % 4), .int .i64 (x0 / 16000), .int .i64 0, .bool false, .int .i64 0, .string ⟨#[]⟩, .int .i64 0, .slice none 0 0] ((unhide YW)) rfl _ Tryz.underlying44 rfl (by kernel_rfl) ?_)
          | (at_builtin; refine wpList_append_xs _ rfl _ _ 26 rfl w.heap.size 46 i0 _ 11 112 Tryz.underlying26 hii hz0 hz1 hz2 rfl (by decide) (by decide) (.slice va L.length vc) L.length (vflat L) rfl (unhide VA).row _ 1 1 (VerA.cells ⟨k, headBlk x0, none, 0⟩) rfl rfl (unhide RA) (VerA.one _) (by omega) (by simp; omega) ?_; intro v' w6 hown hgrow hloc; obtain ⟨a3, c3, e3, -⟩ := rowAt_own hown; subst e3; have HOW := hide hown; have HGR := hide hgrow; have HLO := hide hloc; clear hown hgrow hloc))
        have VN := hide ((unhide VA).next (x := ⟨k, headBlk x0, none, 0⟩) (World.ownsRow_nil _ _ _ _) (fun q hq => by simp [VerA.nv, headBlk, Value.ownBlock] at hq) (unhide HGR) (unhide HOW) (unhide HLO))
        have BN : Hid (Below w.heap.size w w6) := by
          have h1 := unhide BW
          rw [hW] at h1
          exact (h1.alloc (by simp; omega) _).grown (unhide HGR) (by simp; omega) (fun q hq => ((unhide VA).row.lt q hq).1)
        clear HGR HOW HLO VA RA YW VW BW hW
        have hll2 : (L ++ [(⟨k, headBlk x0, none, 0⟩ : VerA)]).length = L.length + 1 := by simp
        rw [← hll2] at VN ⊢
        generalize hLL : L ++ [(⟨k, headBlk x0, none, 0⟩ : VerA)] = L2 at *
        have hL2 : L2.length ≤ k + 1 := by omega
        clear hLL hll2
        go_wp2_with fail
        go_roundw
        case rel => exact ⟨k + 1, a3, c3, L2, F2, by omega, by omega, by go_num, rfl, hL2, VN, HSN, BN⟩
        case measure => simp [intOf]; omega
      have hdec : x0 / 16000 ≤ clock - 2 := by simpa [sureB] using hsu
      have hse : stepCode clock [x0, x1, x2, x3, x4, x5, x6, x7] = readCode [x0, x1, x2, x3, x4, x5, x6, x7] := by simp [stepCode, hok, hk0, hsu]
      have hve : stepVers clock k [x0, x1, x2, x3, x4, x5, x6, x7] = [((k : Int), readBlk [x0, x1, x2, x3, x4, x5, x6, x7])] := by simp [stepVers, hk0, hsu]
      rw [hse] at SS SP
      rw [hve] at SS
      generalize hFF : F ++ stepFree (k : Int) [x0, x1, x2, x3, x4, x5, x6, x7] = F2 at *
      clear hFF hse hve hsu hk0 hok
      go_wp2_with fail
      refine (l1Head_any x0 _ (unhide HOK)).mono ?_
      rintro r w1 ⟨rfl, hb1⟩
      have z1 := hb1.size
      obtain ⟨W, hW, z2, hb2, hx2, hy2⟩ := boxes2 w1 [.int .i64 (x0 % 4), .int .i64 (x0 / 16 % 1000), .int .i64 (x0 / 4 % 4), .int .i64 (x0 / 16000)] [.int .i64 (x0 % 4), .int .i64 (x0 / 16 % 1000), .int .i64 (x0 / 4 % 4), .int .i64 (x0 / 16000), .int .i64 0, .bool false, .int .i64 0, .string ⟨#[]⟩, .int .i64 0, .slice none 0 0] 40 44
      have BW := hide (below_step (below_step (unhide HB) hb1 hwz) (unhide hb2) (by omega))
      have VW := hide (((unhide HV).below hb1).below (unhide hb2))
      have IW := hide (((unhide HIL).below hb1).below (unhide hb2))
      clear hb1 q0 hb2
      go_wp2_with fail
      rw [← hW]
      clear hW
      rw [show (k + 1) * 8 - k * 8 = 8 by omega]
      refine (l3Read_any _ _ (by omega) x0 x1 x2 x3 x4 x5 x6 x7 hb3 _ (unhide IW)).mono ?_
      rintro r w3 ⟨⟨nv, rfl, hO⟩, hb4⟩
      generalize hB : readBlk [x0, x1, x2, x3, x4, x5, x6, x7] = B at *
      generalize hcd : readCode [x0, x1, x2, x3, x4, x5, x6, x7] = cd at *
      clear hB hcd
      obtain ⟨na, nc, en, -⟩ := intsAt_own hO
      subst en
      have z4 := hb4.size
      have NL := hide (fun q hq => hO.lt q hq)
      have B4 := hide (below_step (unhide BW) hb4 (by omega))
      have V4 := hide ((unhide VW).below hb4)
      have Y4 := hide ((unhide hy2).below hb4)
      have N4 := hide hO
      have VL := hide (fun q hq => ((unhide HV).lt (q := q) hq).2)
      clear hb4 BW VW hO IW HIL hx2 hy2
      by_cases hcz : cd = 0
      case neg =>
        have hczb : (cd != 0) = true := by simpa using hcz
        have HR := hide (unhide SP hcz)
        clear hcz SS SP
        go_wp2_with fail
        refine bodyPost_ret (v := .tuple #[.slice none 0 0, .int .i64 cd]) (by simp [results, Tryz.results36, go_sem]) rfl ⟨?_, (unhide B4).alloc (unhide B4).size _⟩
        rw [(unhide HR).1, (unhide HR).2.1]
        exact ⟨_, [], rfl, vown_nil _ _, rfl⟩
      subst hcz
      have HSN := hide (unhide SS (L ++ [⟨k, B, na, nc⟩]) rfl (by rw [List.map_append]; rfl))
      clear SS SP
      obtain ⟨W5, hW5, z5, hb5, hx5⟩ := boxes1 w3 [.int .i64 B.k, .int .i64 B.u, .int .i64 B.i, .int .i64 B.e, .int .i64 B.nu, .bool B.nd, .int .i64 B.np, .string B.nn, .int .i64 B.ns, .slice na B.nl.length nc] 44
      have B5 := hide (below_step (unhide B4) (unhide hb5) (by omega))
      have V5 := hide ((unhide V4).below (unhide hb5))
      have Y5 := hide ((unhide Y4).below (unhide hb5))
      have N5 := hide (own_below (unhide N4) (unhide hb5))
      clear B4 V4 Y4 N4 hb5
      have X5 := hx5
      rw [hW5] at Y5 X5
      go_wp2_with (first
        | (refine wpList_load_part rfl 44 (.tmp 12) rfl w3.heap.size 0 rfl 44 _ [.int .i64 B.k, .int .i64 B.u, .int .i64 B.i, .int .i64 B.e, .int .i64 B.nu, .bool B.nd, .int .i64 B.np, .string B.nn, .int .i64 B.ns, .slice na B.nl.length nc] (unhide X5) rfl _ Tryz.underlying44 rfl (by kernel_rfl) ?_)
        | (refine wpList_store_part rfl 44 (.tmp 11) (.tmp 56) rfl (w1.heap.size + 1) 0 #[.int .i64 B.k, .int .i64 B.u, .int .i64 B.i, .int .i64 B.e, .int .i64 B.nu, .bool B.nd, .int .i64 B.np, .string B.nn, .int .i64 B.ns, .slice na B.nl.length nc] rfl rfl 44 _ (unhide Y5) (by kernel_rfl) (by simp) (by simp [Value.oneCell']) ?_; intro w5 hX6 hO6; have z6 := (unhide hO6).size; have zz6 : w.heap.size ≤ w5.heap.size := (by rw [← hW5] at z6; omega); have hO6' : Hid (Out (fun q => q = w1.heap.size + 1) W5 w5) := (by rw [hW5]; exact hO6); have XX : Hid (Box w5 (w1.heap.size + 1) [.int .i64 B.k, .int .i64 B.u, .int .i64 B.i, .int .i64 B.e, .int .i64 B.nu, .bool B.nd, .int .i64 B.np, .string B.nn, .int .i64 B.ns, .slice na B.nl.length nc] 44) := hX6; have V6 := hide ((unhide V5).out (unhide hO6') (fun q hq e => by have := unhide VL q hq; omega)); have N6 := hide ((unhide hO6').own (unhide N5) (fun q hq e => by have := (unhide NL q hq).1; omega)); have B6 := hide ((unhide hO6').below (unhide B5) (Nat.le_refl _) (fun q hq e => by omega)); have VA := hide ((unhide V6).below ((Below.refl _ w5).alloc (Nat.le_refl _) (.cells #[.int .i64 (k : Int), .int .i64 B.k, .int .i64 B.u, .int .i64 B.i, .int .i64 B.e, .int .i64 B.nu, .bool B.nd, .int .i64 B.np, .string B.nn, .int .i64 B.ns, .slice na B.nl.length nc] 46))); have RA : Hid (RowAt (w5.alloc (.cells #[.int .i64 (k : Int), .int .i64 B.k, .int .i64 B.u, .int .i64 B.i, .int .i64 B.e, .int .i64 B.nu, .bool B.nd, .int .i64 B.np, .string B.nn, .int .i64 B.ns, .slice na B.nl.length nc] 46)) (some ⟨w5.heap.size, 0, none⟩) (VerA.cells ⟨k, B, na, nc⟩)) := rowAt_fresh w5 [.int .i64 (k : Int), .int .i64 B.k, .int .i64 B.u, .int .i64 B.i, .int .i64 B.e, .int .i64 B.nu, .bool B.nd, .int .i64 B.np, .string B.nn, .int .i64 B.ns, .slice na B.nl.length nc] 46; clear hX6 hO6)
        | (refine wpList_load_part rfl 44 (.tmp 11) rfl (w1.heap.size + 1) 0 rfl 44 _ [.int .i64 B.k, .int .i64 B.u, .int .i64 B.i, .int .i64 B.e, .int .i64 B.nu, .bool B.nd, .int .i64 B.np, .string B.nn, .int .i64 B.ns, .slice na B.nl.length nc] (unhide XX) rfl _ Tryz.underlying44 rfl (by kernel_rfl) ?_)
        | (at_builtin; refine wpList_append_xs _ rfl _ _ 26 rfl w.heap.size 46 i0 _ 11 112 Tryz.underlying26 hii hz0 hz1 hz2 rfl (by decide) (by decide) (.slice va L.length vc) L.length (vflat L) rfl (unhide VA).row _ 1 1 (VerA.cells ⟨k, B, na, nc⟩) rfl rfl (unhide RA) (VerA.one _) (by omega) (by simp; omega) ?_; intro v' w6 hown hgrow hloc; obtain ⟨a3, c3, e3, -⟩ := rowAt_own hown; subst e3; have HOW := hide hown; have HGR := hide hgrow; have HLO := hide hloc; clear hown hgrow hloc))
      have VN := hide ((unhide VA).next (x := ⟨k, B, na, nc⟩) (own_base (own_below (unhide N6) ((Below.refl _ w5).alloc (Nat.le_refl _) _)) (fun q hq => by have := (unhide NL q hq).1; omega)) (fun q hq e => by have h1 := (unhide NL q hq).1; have h2 := unhide VL q e; omega) (unhide HGR) (unhide HOW) (unhide HLO))
      have BN : Hid (Below w.heap.size w w6) := ((unhide B6).alloc zz6 _).grown (unhide HGR) (by simp; omega) (fun q hq => ((unhide VA).row.lt q hq).1)
      clear HGR HOW HLO VA RA XX V6 N6 B6 hW5
      have hll2 : (L ++ [(⟨k, B, na, nc⟩ : VerA)]).length = L.length + 1 := by simp
      rw [← hll2] at VN ⊢
      generalize hLL : L ++ [(⟨k, B, na, nc⟩ : VerA)] = L2 at *
      have hL2 : L2.length ≤ k + 1 := by omega
      clear hLL hll2
      go_wp2_with fail
      go_roundw
      case rel => exact ⟨k + 1, a3, c3, L2, F2, by omega, by omega, by go_num, rfl, hL2, VN, HSN, BN⟩
      case measure => simp [intOf]; omega
    · have hke : ws.length / 8 - k = 0 := by omega
      have hR := sofar_end (show Sofar T (imgRun clock 0 k (ws.drop (8 * k))) (L.map VerA.ver) F by have := unhide HS; rw [hke] at this; exact this)
      have HR := hide hR
      have k8 : ¬ (k : Int) < (ws.length : Int) / 8 := by omega
      clear hR HS hke
      go_wp2_with fail
      refine bodyPost_ret (v := .tuple #[.slice va L.length vc, .int .i64 0]) (by simp [results, Tryz.results36, go_sem]) rfl ⟨?_, unhide HB⟩
      rw [(unhide HR).1, (unhide HR).2.1]
      exact ⟨_, L, rfl, unhide HV, rfl⟩
end Go.Proofs.YtiopofemelninaaGreat
/-
  What spec.VersionsIn and impl.VersionsIn answer.
-/
namespace Go.Proofs.YtiopofemelninaaGreat
open Go.RowKit
set_option linter.unusedVariables false

def VRes (e : Ending) (base : Nat) (w' : World) (code : Int) (V : List Ver) : Prop := ∃ v L, e = .returned (.agg #[.int .i64 code, v]) ∧ VOwn w' base v L ∧ L.map VerA.ver = V
theorem clock_words {ws : List Int} (h : clockCode ws = 0) : allWords ws = true := by
  rcases clock_cases ws with ⟨h1, h2, _⟩ | ⟨h1, _⟩
  · rw [h2] at h; exact absurd h h1
  · exact (wordsCode_ok h1).2
set_option maxRecDepth 20000 in
set_option maxHeartbeats 2000000 in
theorem specVersionsIn_any (a : Option Addr) (c : Nat) (ws : List Int) (w : World) (h : IntsAt w a ws) (hcl : ws.length ≤ c) (hcm : c ≤ 10000000) (hn : ws.length ≤ 1048576) :
    Calls Tryz.prog 11 #[.slice a ws.length c] w fun e w' => VRes e w.heap.size w' (imgCode ws) (imgVers ws) ∧ Below w.heap.size w w' := by
  have H := hide h
  clear h
  go_enter Tryz.func11, Tryz.ntmps11
  go_wp2_with fail
  obtain ⟨W, hW, z1, hb, hx⟩ := boxes1 w [.int .i64 0, .slice none 0 0] 31
  rw [← hW]
  clear hW
  refine (specClockOf_any a c ws _ ((unhide H).below (unhide hb)) hn).mono ?_
  rintro e w2 ⟨rfl, hb2⟩
  have z2 := hb2.size
  obtain ⟨W2, hW2, z3, hb3, hx3⟩ := boxes1 w2 [.int .i64 (clockCode ws), .int .i64 (clockVal ws)] 37
  have B3 := hide (below_step (below_step (unhide hb) hb2 (by omega)) (unhide hb3) (by omega))
  have X3 := hide (((unhide hx).below hb2).below (unhide hb3))
  have v0 := (unhide hx3).cell 0
  have v1 := (unhide hx3).cell 1
  have y0 := (unhide X3).cell 0
  have y1 := (unhide X3).cell 1
  have f0 := (unhide X3).frozen 0
  have f1 := (unhide X3).frozen 1
  simp at v0 v1 y0 y1
  by_cases hc : clockCode ws = 0
  case neg =>
    have hcb : (clockCode ws != 0) = true := by simpa using hc
    have HC : Hid (imgCode ws = clockCode ws ∧ imgVers ws = []) := by simp [Hid, imgCode, imgVers, hc]
    clear hc hb2 hb3 hx3 hb hx
    generalize clockCode ws = cd at *
    rw [hW2] at y0 y1 f0 f1 v0
    go_wp2_with fail
    rw [← hW2]
    clear y0 y1 f0 f1 v0 v1 hW2
    generalize hU : (W2.setCell _ _).setCell _ _ = U
    obtain ⟨XU, OU⟩ := store2' (unhide X3) hU
    have t0 := (unhide XU).cell 0
    have t1 := (unhide XU).cell 1
    simp at t0 t1
    refine bodyPost_ret (v := .agg #[.int .i64 cd, .slice none 0 0]) (by simp [results, Tryz.results11, go_sem, t0, t1]) rfl ⟨?_, ?_⟩
    · rw [(unhide HC).1, (unhide HC).2]
      exact ⟨_, [], rfl, vown_nil _ _, rfl⟩
    · exact (unhide OU).below (unhide B3) (Nat.le_refl _) (fun q hq e => by omega)
  obtain ⟨hv1, hv2, hsz⟩ := clockVal_bounds hc
  have hal := clock_words hc
  have HC : Hid (imgCode ws = (imgRun (clockVal ws) (ws.length / 8 - 1) 1 (ws.drop 8)).1 ∧ imgVers ws = (imgRun (clockVal ws) (ws.length / 8 - 1) 1 (ws.drop 8)).2.1) := by simp [Hid, imgCode, imgVers, hc]
  rw [hc] at v0 hW2 ⊢
  have I3 := hide ((unhide H).below (unhide B3))
  clear hc hb2 hb3 hx3 hb hx
  rw [hW2] at v0 v1
  go_wp2_with fail
  rw [← hW2]
  clear hW2 v0 v1 y0 y1 f0 f1
  refine (l4Versions_any a c ws (clockVal ws) _ (unhide I3) hcl hcm hsz hal hv1 hv2).mono ?_
  rintro e w4 ⟨⟨v, L, rfl, hV, hM⟩, hb4⟩
  obtain ⟨va, vc, ev⟩ := hV.form
  subst ev
  generalize (imgRun (clockVal ws) (ws.length / 8 - 1) 1 (ws.drop 8)).1 = cd at *
  generalize (imgRun (clockVal ws) (ws.length / 8 - 1) 1 (ws.drop 8)).2.1 = V at *
  have B4 := hide (below_step (unhide B3) hb4 (by omega))
  have X4 := hide ((unhide X3).below hb4)
  have V4 := hide hV
  have z4 := hb4.size
  have y0 := (unhide X4).cell 0
  have y1 := (unhide X4).cell 1
  have f0 := (unhide X4).frozen 0
  have f1 := (unhide X4).frozen 1
  simp at y0 y1
  clear hb4 hV X3 B3 I3
  go_wp2_with fail
  clear y0 y1 f0 f1
  generalize hU : (w4.setCell _ _).setCell _ _ = U
  obtain ⟨XU, OU⟩ := store2' (unhide X4) hU
  have t0 := (unhide XU).cell 0
  have t1 := (unhide XU).cell 1
  simp at t0 t1
  refine bodyPost_ret (v := .agg #[.int .i64 cd, .slice va L.length vc]) (by simp [results, Tryz.results11, go_sem, t0, t1]) rfl ⟨?_, ?_⟩
  · rw [(unhide HC).1, (unhide HC).2]
    exact ⟨_, L, rfl, ((unhide V4).out (unhide OU) (fun q hq e => by have := ((unhide V4).lt hq).1; omega)).base (by omega), hM⟩
  · exact (unhide OU).below (unhide B4) (Nat.le_refl _) (fun q hq e => by omega)
set_option maxRecDepth 20000 in
set_option maxHeartbeats 2000000 in
theorem implVersionsIn_any (a : Option Addr) (c : Nat) (ws : List Int) (w : World) (h : IntsAt w a ws) (hcl : ws.length ≤ c) (hcm : c ≤ 10000000) (hn : ws.length ≤ 1048576) :
    Calls Tryz.prog 8 #[.slice a ws.length c] w fun e w' => VRes e w.heap.size w' (imgCode ws) (imgVers ws) ∧ Below w.heap.size w w' := by
  have H := hide h
  clear h
  have HBAD : Hid (imgCode ws ≠ 0 → imgVers ws = []) := fun h => by
    unfold imgCode at h
    unfold imgVers
    split
    · rename_i hc; rw [if_pos hc] at h; exact (imgRun_bad h).1
    · rfl
  go_enter Tryz.func8, Tryz.ntmps8
  go_wp2_with fail
  obtain ⟨W, hW, z1, hb, hx⟩ := boxes1 w [.int .i64 0, .slice none 0 0] 31
  rw [← hW]
  clear hW
  refine (implImageOf_any a c ws _ ((unhide H).below (unhide hb)) hcl hcm hn).mono ?_
  rintro e w2 ⟨⟨vv, fv, L, rfl, hV, hF, hsep, hM⟩, hb2⟩
  have z2 := hb2.size
  obtain ⟨va, vc, ev⟩ := hV.form
  obtain ⟨fa, fc, ef, -⟩ := rowAt_own hF
  subst ev ef
  generalize hFF : imgFree ws = FF at *
  generalize hCC : imgClk ws = CC at *
  obtain ⟨W2, hW2, z3, hb3, hx3⟩ := boxes1 w2 [.int .i64 CC, .slice va L.length vc, .slice fa FF.length fc] 61
  have B3 := hide (below_step (below_step (unhide hb) hb2 (by omega)) (unhide hb3) (by omega))
  have X3 := hide (((unhide hx).below hb2).below (unhide hb3))
  have V3 := hide (hV.below (unhide hb3))
  have v1 := (unhide hx3).cell 1
  have y0 := (unhide X3).cell 0
  have y1 := (unhide X3).cell 1
  have f0 := (unhide X3).frozen 0
  have f1 := (unhide X3).frozen 1
  simp at v1 y0 y1
  have HM := hide hM
  rw [hW2] at v1 y0 y1 f0 f1
  clear hb2 hb3 hx3 hb hx hF hV hsep hFF hCC hM
  by_cases hc : imgCode ws = 0
  case neg =>
    have hcb : (imgCode ws != 0) = true := by simpa using hc
    have HVN := hide (unhide HBAD hc)
    generalize hcd : imgCode ws = cd at *
    have HCD := hide hcd
    clear hc hcd
    go_wp2_with fail
    rw [← hW2]
    clear y0 y1 f0 f1 v1 hW2
    generalize hU : (W2.setCell _ _).setCell _ _ = U
    obtain ⟨XU, OU⟩ := store2' (unhide X3) hU
    have t0 := (unhide XU).cell 0
    have t1 := (unhide XU).cell 1
    simp at t0 t1
    refine bodyPost_ret (v := .agg #[.int .i64 cd, .slice none 0 0]) (by simp [results, Tryz.results8, go_sem, t0, t1]) rfl ⟨?_, ?_⟩
    · rw [unhide HCD, unhide HVN]
      exact ⟨_, [], rfl, vown_nil _ _, rfl⟩
    · exact (unhide OU).below (unhide B3) (Nat.le_refl _) (fun q hq e => by omega)
  have HCD := hide hc
  rw [hc]
  clear hc
  go_wp2_with fail
  rw [← hW2]
  clear y0 y1 f0 f1 v1 hW2
  generalize hU : (W2.setCell _ _).setCell _ _ = U
  obtain ⟨XU, OU⟩ := store2' (unhide X3) hU
  have t0 := (unhide XU).cell 0
  have t1 := (unhide XU).cell 1
  simp at t0 t1
  refine bodyPost_ret (v := .agg #[.int .i64 0, .slice va L.length vc]) (by simp [results, Tryz.results8, go_sem, t0, t1]) rfl ⟨?_, ?_⟩
  · rw [unhide HCD]
    exact ⟨_, L, rfl, ((unhide V3).out (unhide OU) (fun q hq e => by have := ((unhide V3).lt hq).1; omega)).base (by omega), unhide HM⟩
  · exact (unhide OU).below (unhide B3) (Nat.le_refl _) (fun q hq e => by omega)
end Go.Proofs.YtiopofemelninaaGreat
