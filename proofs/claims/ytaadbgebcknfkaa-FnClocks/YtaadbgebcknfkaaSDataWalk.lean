/-
  What spec.PackData answers.
-/
import Derived.Test.YtaadbgebcknfkaaSPackWalk
import Derived.Test.YtaadbgebcknfkaaAppInts
namespace Go.Proofs.Ytaadbgebcknfkaa
open Go.RowKit

theorem own_lit1 (w : World) (base : Nat) (hb : base ≤ w.heap.size) (x : Int) : (w.alloc (.cells #[.int .i64 x] 2)).ownsRow base 2 1 (.slice (some ⟨w.heap.size, 0, none⟩) 1 1) 1 (nums [x]) :=
  ⟨rfl, .inr ⟨w.heap.size, 1, #[.int .i64 x], rfl, hb, box_new w [.int .i64 x] 2, Nat.le_refl _, by simp [maxLen], rfl, rfl⟩⟩
theorem ints_three_new (w : World) : IntsAt (w.alloc (.cells #[.int .i64 0, .int .i64 0, .int .i64 0] 2)) (some ⟨w.heap.size, 0, none⟩) [0, 0, 0] := by
  have hb : Box (w.alloc (.cells #[.int .i64 0, .int .i64 0, .int .i64 0] 2)) w.heap.size [.int .i64 0, .int .i64 0, .int .i64 0] 2 := box_new w [.int .i64 0, .int .i64 0, .int .i64 0] 2
  refine .inr ⟨w.heap.size, 0, rfl, hb.lt, fun i hi => ?_⟩
  rw [Nat.zero_add, hb.cell i]
  match i, hi with
  | 0, _ => rfl
  | 1, _ => rfl
  | 2, _ => rfl

set_option maxHeartbeats 2000000 in
theorem l3Data_any (u i : Int) (a : Option Addr) (c : Nat) (l : List Int) (e : Int) (w : World) (h : IntsAt w a l) (hl : l.length ≤ 1048576) (hok : headOk 2 u i e = true) :
    Calls Try.prog 35 #[.int .i64 u, .int .i64 i, .slice a l.length c, .int .i64 e] w fun r w' => SRes w.heap.size w' r (headWordI 2 u i e :: (l ++ [0, 0, 0])) ∧ Below w.heap.size w w' := by
  obtain ⟨i0, hi, hz0, hz1, hz2⟩ := info_parts infoInt64
  obtain ⟨W, hW, hWz, HB0, HX0⟩ := boxes1 w [.int .i64 2, .int .i64 u, .int .i64 i, .int .i64 e] 27
  have HOK := hide hok
  have H := hide h
  clear hok h
  go_enter Try.func35, Try.ntmps35
  go_wp2_with fail
  rw [← hW]
  clear hW
  refine (l1HeadWord_bel w.heap.size 2 u i e _ (unhide HOK) ((unhide HX0).cell 0) ((unhide HX0).cell 1) ((unhide HX0).cell 2) ((unhide HX0).cell 3)).mono ?_
  rintro r w1 ⟨rfl, hb1⟩
  have HB1 := hide (below_step (unhide HB0) hb1 (by omega))
  have zw1 : w.heap.size ≤ w1.heap.size := by have := hb1.size; omega
  clear hb1 HX0 HB0
  generalize hx : headWordI 2 u i e = x at *
  have HX := hide hx
  clear hx
  have O2 := hide (own_lit1 w1 w.heap.size zw1 x)
  have hb2 : Below w1.heap.size w1 (w1.alloc (.cells #[.int .i64 x] 2)) := below_new _ _
  have B2 := hide (below_step (unhide HB1) hb2 zw1)
  have I2 := hide ((unhide H).below (unhide B2))
  clear hb2
  go_wp2_with (first
    | (at_builtin; refine wpList_append_ints _ rfl _ _ 24 rfl w.heap.size 2 i0 (.int .i64 0) Try.underlying24 hi hz0 hz1 hz2 rfl _ 1 (nums [x]) rfl (unhide O2) a l.length c l rfl rfl (unhide I2) (by omega) (by simp; omega) ?_; intro v3 w3 hown hgrow hblk; have O3 := hide hown; have B3 := hide ((unhide B2).grown hgrow (by simp; omega) (fun q hq => ((unhide O2).lt q hq).1)); have z3 : w.heap.size ≤ w3.heap.size := (unhide B3).size; clear hown hgrow hblk)
    | (at_builtin; refine wpList_append_ints _ rfl _ _ 24 rfl w.heap.size 2 i0 (.int .i64 0) Try.underlying24 hi hz0 hz1 hz2 rfl _ (1 + l.length) (nums [x] ++ nums l) rfl ((unhide O3).alloc _) _ 3 3 [0, 0, 0] rfl rfl (ints_three_new _) (by simp; omega) (by simp; omega) ?_; intro v4 w4 hown hgrow hblk; have O4 := hide hown; have B4 := hide (((unhide B3).alloc z3 _).grown hgrow (by simp; omega) (fun q hq => ((unhide O3).lt q hq).1)); clear hown hgrow hblk))
  go_ret
  refine ⟨?_, unhide B4⟩
  rw [unhide HX]
  have hl4 : 1 + l.length + [(0 : Int), 0, 0].length = (x :: (l ++ [0, 0, 0])).length := by simp; omega
  have hv4 : nums [x] ++ nums l ++ nums [0, 0, 0] = nums (x :: (l ++ [0, 0, 0])) := by simp [nums]
  have h4 := unhide O4
  rw [hl4, hv4] at h4
  exact ⟨_, rfl, h4⟩
set_option maxRecDepth 20000 in
set_option maxHeartbeats 2000000 in
theorem specPackData_any (u i : Int) (a : Option Addr) (c : Nat) (l : List Int) (e : Int) (w : World) (h : IntsAt w a l) (hl : l.length ≤ 1048576) :
    Calls Try.prog 92 #[.int .i64 u, .int .i64 i, .slice a l.length c, .int .i64 e] w fun r w' => WRes w.heap.size w' r (dataCode u i l e) (dataWords u i l e) ∧ Below w.heap.size w w' := by
  cases h2 : inB u 1 999
  · have HC : Hid (dataCode u i l e = 3) := by
      have : headCode 2 u i e = 3 := by rw [headCode2_eq, h2]; simp
      rw [Hid, dataCode, this]; rfl
    have HC2 : Hid (dataWords u i l e = []) := by rw [Hid, dataWords, if_neg (by rw [unhide HC]; decide)]
    go_enter Try.func92, Try.ntmps92
    go_wp2_with (first | (go_at_call 54; refine (l1In_any _ _ _ _).mono ?_; rintro e2 w2 ⟨rfl, rfl⟩) | (go_at_call 117; refine (l3Epoch_any _ _).mono ?_; rintro e2 w2 ⟨rfl, rfl⟩))
    refine bodyPost_ret (v := .agg #[.int .i64 3, .slice none 0 0]) (by simp [results, Try.results92, go_sem]) rfl ⟨?_, ?_⟩
    · rw [unhide HC, unhide HC2]
      exact ⟨_, rfl, World.ownsRow_nil _ _ _ _⟩
    · exact below_new _ _
  cases h3 : inB i 0 3
  · have HC : Hid (dataCode u i l e = 3) := by
      have : headCode 2 u i e = 3 := by rw [headCode2_eq, h3]; simp
      rw [Hid, dataCode, this]; rfl
    have HC2 : Hid (dataWords u i l e = []) := by rw [Hid, dataWords, if_neg (by rw [unhide HC]; decide)]
    go_enter Try.func92, Try.ntmps92
    go_wp2_with (first | (go_at_call 54; refine (l1In_any _ _ _ _).mono ?_; rintro e2 w2 ⟨rfl, rfl⟩) | (go_at_call 117; refine (l3Epoch_any _ _).mono ?_; rintro e2 w2 ⟨rfl, rfl⟩))
    refine bodyPost_ret (v := .agg #[.int .i64 3, .slice none 0 0]) (by simp [results, Try.results92, go_sem]) rfl ⟨?_, ?_⟩
    · rw [unhide HC, unhide HC2]
      exact ⟨_, rfl, World.ownsRow_nil _ _ _ _⟩
    · exact below_new _ _
  cases h4 : inB e 1 9999
  · have HC : Hid (dataCode u i l e = 3) := by
      have : headCode 2 u i e = 3 := by rw [headCode2_eq, h4]; simp
      rw [Hid, dataCode, this]; rfl
    have HC2 : Hid (dataWords u i l e = []) := by rw [Hid, dataWords, if_neg (by rw [unhide HC]; decide)]
    go_enter Try.func92, Try.ntmps92
    go_wp2_with (first | (go_at_call 54; refine (l1In_any _ _ _ _).mono ?_; rintro e2 w2 ⟨rfl, rfl⟩) | (go_at_call 117; refine (l3Epoch_any _ _).mono ?_; rintro e2 w2 ⟨rfl, rfl⟩))
    refine bodyPost_ret (v := .agg #[.int .i64 3, .slice none 0 0]) (by simp [results, Try.results92, go_sem]) rfl ⟨?_, ?_⟩
    · rw [unhide HC, unhide HC2]
      exact ⟨_, rfl, World.ownsRow_nil _ _ _ _⟩
    · exact below_new _ _
  have HOK : Hid (headCode 2 u i e = 0) := by rw [Hid, headCode2_eq, h2, h3, h4]; simp
  obtain ⟨W, hW, hWz, HB0, HX0⟩ := boxes1 w [.int .i64 0, .slice none 0 0] 41
  have H := hide h
  clear h
  go_enter Try.func92, Try.ntmps92
  go_wp2_with (first | (go_at_call 54; refine (l1In_any _ _ _ _).mono ?_; rintro e2 w2 ⟨rfl, rfl⟩) | (go_at_call 117; refine (l3Epoch_any _ _).mono ?_; rintro e2 w2 ⟨rfl, rfl⟩))
  rw [← hW]
  clear hW
  refine (specNumbersFault_any a c l _ ((unhide H).below (unhide HB0)) hl).mono ?_
  rintro r w1 ⟨rfl, rfl⟩
  have I1 := hide ((unhide H).below (unhide HB0))
  have q0 := (unhide HX0).cell 0
  have q1 := (unhide HX0).cell 1
  have f0 := (unhide HX0).frozen 0
  have f1 := (unhide HX0).frozen 1
  simp only [List.getElem?_cons_zero, List.getElem?_cons_succ] at q0 q1
  generalize hcd : numsCode l = cd at *
  have HC : Hid (dataCode u i l e = cd) := by rw [Hid, dataCode, unhide HOK, orI, if_pos rfl, hcd]
  by_cases hc : cd = 0
  · subst hc
    have HC2 : Hid (dataWords u i l e = headWordI 2 u i e :: (l ++ [0, 0, 0])) := by rw [Hid, dataWords, if_pos (unhide HC)]
    clear hcd
    go_wp2_with fail
    refine (l3Data_any u i a c l e _ (unhide I1) hl (headCode_ok (unhide HOK))).mono ?_
    rintro r w2 ⟨⟨v, rfl, ho⟩, hb2⟩
    have HX2 := hide ((unhide HX0).below hb2)
    have HB2 := hide (below_step (unhide HB0) hb2 (by omega))
    have zz2 : w.heap.size < w2.heap.size := by have := hb2.size; omega
    generalize hwd : headWordI 2 u i e :: (l ++ [0, 0, 0]) = wd at *
    clear hwd
    obtain ⟨a1, c1, rfl, -, -, -, -⟩ := intsAt_own ho
    have HO1 := hide ho
    clear hb2 ho HX0 HB0 I1 q0 q1 f0 f1
    have q0 := (unhide HX2).cell 0
    have q1 := (unhide HX2).cell 1
    have f0 := (unhide HX2).frozen 0
    have f1 := (unhide HX2).frozen 1
    simp only [List.getElem?_cons_zero, List.getElem?_cons_succ] at q0 q1
    go_wp2_with fail
    generalize hU : (w2.setCell ⟨w.heap.size, 0, none⟩ (.int .i64 0)).setCell ⟨w.heap.size, 1, none⟩ (.slice a1 wd.length c1) = U at *
    obtain ⟨HXU, HOU⟩ := store2' (unhide HX2) hU
    clear hU
    have p0 := (unhide HXU).cell 0
    have p1 := (unhide HXU).cell 1
    simp only [List.getElem?_cons_zero, List.getElem?_cons_succ] at p0 p1
    refine bodyPost_ret (v := .agg #[.int .i64 0, .slice a1 wd.length c1]) (by simp [results, Try.results92, go_sem, p0, p1]) rfl ⟨?_, ?_⟩
    · rw [unhide HC, unhide HC2]
      exact ⟨_, rfl, (unhide HOU).own (own_base (unhide HO1) (fun q hq => by have := (unhide HO1).lt q hq; omega)) (fun q hq => by have := (unhide HO1).lt q hq; omega)⟩
    · exact (unhide HOU).below (unhide HB2) (Nat.le_refl _) (fun q hq hF => by omega)
  · have hcb : (cd != 0) = true := by simpa using hc
    have HC2 : Hid (dataWords u i l e = []) := by rw [Hid, dataWords, if_neg (by rw [unhide HC]; exact hc)]
    clear hc hcd I1
    go_wp2_with fail
    generalize hU : (w1.setCell ⟨w.heap.size, 0, none⟩ (.int .i64 cd)).setCell ⟨w.heap.size, 1, none⟩ (.slice none 0 0) = U at *
    obtain ⟨HXU, HOU⟩ := store2' (unhide HX0) hU
    clear hU
    have p0 := (unhide HXU).cell 0
    have p1 := (unhide HXU).cell 1
    simp only [List.getElem?_cons_zero, List.getElem?_cons_succ] at p0 p1
    refine bodyPost_ret (v := .agg #[.int .i64 cd, .slice none 0 0]) (by simp [results, Try.results92, go_sem, p0, p1]) rfl ⟨?_, ?_⟩
    · rw [unhide HC, unhide HC2]
      exact ⟨_, rfl, World.ownsRow_nil _ _ _ _⟩
    · exact (unhide HOU).below (unhide HB0) (Nat.le_refl _) (fun q hq hF => by omega)
end Go.Proofs.Ytaadbgebcknfkaa
