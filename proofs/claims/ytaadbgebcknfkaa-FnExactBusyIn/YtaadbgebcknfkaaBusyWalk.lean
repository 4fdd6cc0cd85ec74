/-
  What impl.BusyIn and spec.BusyIn answer.
-/
import Derived.Test.YtaadbgebcknfkaaStateMath
import Derived.Test.YtaadbgebcknfkaaAppRow
import Derived.Test.YtaadbgebcknfkaaDevTo
import Derived.Test.YtaadbgebcknfkaaWideBox
import Derived.Test.YtaadbgebcknfkaaEqB
namespace Go.Proofs.Ytaadbgebcknfkaa
open Go.RowKit
set_option linter.unusedVariables false

/-- The numbers, from k on, of those that are true. -/
def trues : Nat → List Bool → List Int
  | _, [] => []
  | k, b :: l => (if b then [(k : Int)] else []) ++ trues (k + 1) l
def busyCode (l : List Bool) : Int := if l.length ≤ 4 then 0 else 2
def busyNums (l : List Bool) : List Int := if l.length ≤ 4 then trues 0 l else []
theorem trues_drop {l : List Bool} {k : Nat} (h : k < l.length) : trues k (l.drop k) = (if l[k] then [(k : Int)] else []) ++ trues (k + 1) (l.drop (k + 1)) := by
  rw [List.drop_eq_getElem_cons h, trues]
theorem trues_len : ∀ (k : Nat) (l : List Bool), (trues k l).length ≤ l.length
  | _, [] => Nat.le_refl _
  | k, b :: l => by
    have := trues_len (k + 1) l
    rw [trues, List.length_append, List.length_cons]
    split <;> simp <;> omega
theorem busyNums_len (l : List Bool) : (busyNums l).length ≤ 4 := by
  unfold busyNums
  split
  · have := trues_len 0 l; omega
  · simp
def NRes (e : Ending) (base : Nat) (w' : World) (code : Int) (l : List Int) : Prop := ∃ a c, e = .returned (.agg #[.int .i64 code, .slice a l.length c]) ∧ w'.ownsRow base 2 1 (.slice a l.length c) l.length (nums l)
theorem rowAt_newB (w : World) (cs : List Value) (t : TypeId) : RowAt (w.alloc (.cells cs.toArray t)) (some ⟨w.heap.size, 0, none⟩) cs := rowAt_box (box_new w cs t)
set_option maxRecDepth 20000 in
set_option maxHeartbeats 4000000 in
theorem implBusyIn_any (x : StaA) (w : World) (h : BoolsAt w x.aB x.bl) (hn : x.bl.length ≤ 1048576) :
    Calls Try.prog 24 #[.agg #[.bool x.up, .int .i64 x.now, .int .i64 x.su, .slice x.a1 x.D.words.length x.c1, .slice x.a2 x.D.flights.length x.c2, .slice x.a3 x.D.over.length x.c3, .slice x.aI x.LI.length x.cI, .int .i64 x.fr, .slice x.aB x.bl.length x.cB, .slice x.aC x.cl.length x.cC, .slice x.aN x.LN.length x.cN]] w fun e w' => NRes e w.heap.size w' (busyCode x.bl) (busyNums x.bl) ∧ Below w.heap.size w w' := by
  obtain ⟨i0, hii, hz0, hz1, hz2⟩ := info_parts infoInt64
  have H := hide h
  clear h
  by_cases hc : x.bl.length ≤ 4
  case neg =>
    obtain ⟨W, hW, hWz, HB0, HP0, HX0⟩ := boxes2 w [.bool x.up, .int .i64 x.now, .int .i64 x.su, .slice x.a1 x.D.words.length x.c1, .slice x.a2 x.D.flights.length x.c2, .slice x.a3 x.D.over.length x.c3, .slice x.aI x.LI.length x.cI, .int .i64 x.fr, .slice x.aB x.bl.length x.cB, .slice x.aC x.cl.length x.cC, .slice x.aN x.LN.length x.cN] [.int .i64 2, .slice none 0 0] 70 62
    have hg : (4 : Int) < x.bl.length := by omega
    have HC : Hid (busyCode x.bl = 2 ∧ busyNums x.bl = []) := ⟨if_neg hc, if_neg hc⟩
    clear hc
    go_enter Try.func24, Try.ntmps24
    go_wp2_with fail
    rw [← hW]
    clear hW
    have t0 := (unhide HX0).cell 0
    have t1 := (unhide HX0).cell 1
    simp at t0 t1
    refine bodyPost_ret (v := .agg #[.int .i64 2, .slice none 0 0]) (by simp [results, Try.results24, go_sem, t0, t1]) rfl ⟨?_, ?_⟩
    · rw [(unhide HC).1, (unhide HC).2]
      exact ⟨none, 0, rfl, World.ownsRow_nil _ _ _ _⟩
    · exact unhide HB0
  obtain ⟨W, hW, hWz, HB0, HP0, HX0⟩ := boxes2 w [.bool x.up, .int .i64 x.now, .int .i64 x.su, .slice x.a1 x.D.words.length x.c1, .slice x.a2 x.D.flights.length x.c2, .slice x.a3 x.D.over.length x.c3, .slice x.aI x.LI.length x.cI, .int .i64 x.fr, .slice x.aB x.bl.length x.cB, .slice x.aC x.cl.length x.cC, .slice x.aN x.LN.length x.cN] [.int .i64 0, .slice none 0 0] 70 62
  have hg : ¬ (4 : Int) < x.bl.length := by omega
  have HC : Hid (busyCode x.bl = 0 ∧ busyNums x.bl = trues 0 x.bl) := ⟨if_pos hc, if_pos hc⟩
  go_enter Try.func24, Try.ntmps24
  go_wp2_with fail
  rw [← hW]
  clear hW
  have O0 : Hid (W.ownsRow W.heap.size 2 1 (.slice none 0 0) 0 (nums [])) := World.ownsRow_nil _ _ _ _
  have HI0 : Hid (busyNums x.bl = [] ++ trues 0 (x.bl.drop 0)) := by rw [Hid, (unhide HC).2]; rfl
  have hbz : w.heap.size + 1 < W.heap.size := by omega
  generalize hbs : W.heap.size = base at O0 hbz
  have hz9 : base ≤ W.heap.size := by omega
  clear hbs
  go_loopw [3, 14] (fun v i wr => ∃ (k : Nat) (fa : Option Addr) (fc : Nat) (F : List Int), k ≤ x.bl.length ∧ i = .int .i64 k ∧ v = .slice fa F.length fc ∧ F.length ≤ k ∧ Hid (wr.ownsRow base 2 1 (.slice fa F.length fc) F.length (nums F)) ∧ Hid (busyNums x.bl = F ++ trues k (x.bl.drop k)) ∧ Hid (Below w.heap.size w wr) ∧ Hid (Box wr (w.heap.size + 1) [.int .i64 0, .slice none 0 0] 62) ∧ base ≤ wr.heap.size) (fun _ i _ => x.bl.length - (intOf i).toNat)
  case atStart => exact ⟨0, _, 0, [], Nat.zero_le _, rfl, rfl, by simp, O0, HI0, HB0, HX0, hz9⟩
  case round =>
    obtain ⟨k, fa, fc, F, hk, rfl, rfl, hF, HO, HI, HB, HX, hbw⟩ := hrel
    clear O0 HI0 HB0 HX0 HP0
    have hwz := (unhide HB).size
    by_cases hlt : k < x.bl.length
    · obtain ⟨b, o, eb, hbb, hcell⟩ := (unhide H).at hlt
      rw [eb]
      have q0 := (unhide HB).cell (p := ⟨b, o + k, none⟩) hbb
      rw [hcell k hlt] at q0
      have HT := hide (trues_drop hlt)
      have kl : (k : Int) < x.bl.length := by omega
      clear hcell
      generalize x.bl[k] = bk at *
      cases bk
      · have HI2 : Hid (busyNums x.bl = F ++ trues (k + 1) (x.bl.drop (k + 1))) := by rw [Hid, unhide HI, unhide HT]; rfl
        clear HI HT
        go_wp2_with fail
        go_roundw
        case rel => exact ⟨k + 1, fa, fc, F, by omega, by go_num, rfl, by omega, HO, HI2, HB, HX, hbw⟩
        case measure => simp [intOf]; omega
      · have HI2 : Hid (busyNums x.bl = (F ++ [(k : Int)]) ++ trues (k + 1) (x.bl.drop (k + 1))) := by rw [Hid, unhide HI, unhide HT, List.append_assoc]; rfl
        have OA := hide (own_below (unhide HO) ((Below.refl _ wr).alloc (Nat.le_refl _) (.cells #[.int .i64 (k : Int)] 2)))
        have XA := hide ((unhide HX).alloc (.cells #[.int .i64 (k : Int)] 2))
        have RA : Hid (RowAt (wr.alloc (.cells #[.int .i64 (k : Int)] 2)) (some ⟨wr.heap.size, 0, none⟩) (nums [(k : Int)])) := rowAt_newB wr [.int .i64 (k : Int)] 2
        clear HI HT
        go_wp2_with (at_builtin; refine wpList_append_xs _ rfl _ _ 24 rfl base 2 i0 _ 1 8 Try.underlying24 hii hz0 hz1 hz2 rfl (by decide) (by decide) (.slice fa F.length fc) F.length (nums F) rfl (unhide OA) _ 1 1 (nums [(k : Int)]) rfl rfl (unhide RA) (by simp [nums, Value.oneCell']) (by omega) (by simp; omega) ?_; intro v' w3 hown hgrow hloc; obtain ⟨a3, c3, e3, -⟩ := rowAt_own hown; subst e3; have HOW := hide hown; have HGR := hide hgrow; clear hown hgrow hloc)
        have O3 : Hid (w3.ownsRow base 2 1 (.slice a3 (F ++ [(k : Int)]).length c3) (F ++ [(k : Int)]).length (nums (F ++ [(k : Int)]))) := by
          rw [Hid, List.length_append, nums_append]; exact unhide HOW
        have X3 := hide ((unhide XA).grown (unhide HGR) (fun e => by have := ((unhide OA).lt _ e).1; omega))
        have B3 : Hid (Below w.heap.size w w3) := ((unhide HB).alloc hwz _).grown (unhide HGR) (by simp; omega) (fun q hq => by have := ((unhide OA).lt q hq).1; omega)
        have z3 : base ≤ w3.heap.size := by have := (unhide HGR).size; simp at this; omega
        have hll2 : (F ++ [(k : Int)]).length = F.length + 1 := by simp
        rw [← hll2]
        generalize hLL : F ++ [(k : Int)] = F2 at *
        have hF2 : F2.length ≤ k + 1 := by omega
        clear hLL hll2 HOW HGR OA XA RA HO HB HX q0
        go_wp2_with fail
        go_roundw
        case rel => exact ⟨k + 1, a3, c3, F2, by omega, by go_num, rfl, hF2, O3, HI2, B3, X3, z3⟩
        case measure => simp [intOf]; omega
    · have hke : k = x.bl.length := by omega
      have HI2 : Hid (busyNums x.bl = F) := by
        rw [Hid, unhide HI, hke, List.drop_length]; simp [trues]
      have kl : ¬ (k : Int) < x.bl.length := by omega
      have y0 := (unhide HX).cell 0
      have y1 := (unhide HX).cell 1
      have f0 := (unhide HX).frozen 0
      have f1 := (unhide HX).frozen 1
      simp at y0 y1
      clear HI hke
      go_wp2_with fail
      clear y0 y1 f0 f1
      generalize hU : (wr.setCell _ _).setCell _ _ = U
      obtain ⟨XU, OU⟩ := store2' (unhide HX) hU
      have t0 := (unhide XU).cell 0
      have t1 := (unhide XU).cell 1
      simp at t0 t1
      refine bodyPost_ret (v := .agg #[.int .i64 0, .slice fa F.length fc]) (by simp [results, Try.results24, go_sem, t0, t1]) rfl ⟨?_, ?_⟩
      · rw [(unhide HC).1, unhide HI2]
        exact ⟨fa, fc, rfl, own_base ((unhide OU).own (unhide HO) (fun q hq e => by have := ((unhide HO).lt q hq).1; omega)) (fun q hq => by have := ((unhide HO).lt q hq).1; omega)⟩
      · exact (unhide OU).below (unhide HB) (Nat.le_refl _) (fun q hq e => by omega)
set_option maxRecDepth 20000 in
set_option maxHeartbeats 4000000 in
theorem specBusyIn_any (x : StaA) (w : World) (h : BoolsAt w x.aB x.bl) (hn : x.bl.length ≤ 1048576) :
    Calls Try.prog 22 #[.agg #[.bool x.up, .int .i64 x.now, .int .i64 x.su, .slice x.a1 x.D.words.length x.c1, .slice x.a2 x.D.flights.length x.c2, .slice x.a3 x.D.over.length x.c3, .slice x.aI x.LI.length x.cI, .int .i64 x.fr, .slice x.aB x.bl.length x.cB, .slice x.aC x.cl.length x.cC, .slice x.aN x.LN.length x.cN]] w fun e w' => NRes e w.heap.size w' (busyCode x.bl) (busyNums x.bl) ∧ Below w.heap.size w w' := by
  obtain ⟨i0, hii, hz0, hz1, hz2⟩ := info_parts infoInt64
  have H := hide h
  clear h
  by_cases hc : x.bl.length ≤ 4
  case neg =>
    obtain ⟨W, hW, hWz, HB0, HP0, HX0⟩ := boxes2 w [.bool x.up, .int .i64 x.now, .int .i64 x.su, .slice x.a1 x.D.words.length x.c1, .slice x.a2 x.D.flights.length x.c2, .slice x.a3 x.D.over.length x.c3, .slice x.aI x.LI.length x.cI, .int .i64 x.fr, .slice x.aB x.bl.length x.cB, .slice x.aC x.cl.length x.cC, .slice x.aN x.LN.length x.cN] [.int .i64 2, .slice none 0 0] 70 62
    have hg : (4 : Int) < x.bl.length := by omega
    have HC : Hid (busyCode x.bl = 2 ∧ busyNums x.bl = []) := ⟨if_neg hc, if_neg hc⟩
    clear hc
    go_enter Try.func22, Try.ntmps22
    go_wp2_with fail
    rw [← hW]
    clear hW
    have t0 := (unhide HX0).cell 0
    have t1 := (unhide HX0).cell 1
    simp at t0 t1
    refine bodyPost_ret (v := .agg #[.int .i64 2, .slice none 0 0]) (by simp [results, Try.results22, go_sem, t0, t1]) rfl ⟨?_, ?_⟩
    · rw [(unhide HC).1, (unhide HC).2]
      exact ⟨none, 0, rfl, World.ownsRow_nil _ _ _ _⟩
    · exact unhide HB0
  obtain ⟨W, hW, hWz, HB0, HP0, HX0, HY0⟩ := boxes3 w [.bool x.up, .int .i64 x.now, .int .i64 x.su, .slice x.a1 x.D.words.length x.c1, .slice x.a2 x.D.flights.length x.c2, .slice x.a3 x.D.over.length x.c3, .slice x.aI x.LI.length x.cI, .int .i64 x.fr, .slice x.aB x.bl.length x.cB, .slice x.aC x.cl.length x.cC, .slice x.aN x.LN.length x.cN] [.int .i64 0, .slice none 0 0] [.int .i64 0, .slice none 0 0] 70 62 62
  have hg : ¬ (4 : Int) < x.bl.length := by omega
  have HC : Hid (busyCode x.bl = 0 ∧ busyNums x.bl = trues 0 x.bl) := ⟨if_pos hc, if_pos hc⟩
  go_enter Try.func22, Try.ntmps22
  go_wp2_with fail
  rw [← hW]
  clear hW
  have O0 : Hid (W.ownsRow W.heap.size 2 1 (.slice none 0 0) 0 (nums [])) := World.ownsRow_nil _ _ _ _
  have HI0 : Hid (busyNums x.bl = [] ++ trues 0 (x.bl.drop 0)) := by rw [Hid, (unhide HC).2]; rfl
  have hbz : w.heap.size + 1 + 1 < W.heap.size := by omega
  generalize hbs : W.heap.size = base at O0 hbz
  have hz9 : base ≤ W.heap.size := by omega
  clear hbs
  go_loopw [4] (fun i wr => ∃ (k : Nat) (fa : Option Addr) (fc : Nat) (F : List Int), k ≤ x.bl.length ∧ i = .int .i64 k ∧ F.length ≤ k ∧ Hid (wr.ownsRow base 2 1 (.slice fa F.length fc) F.length (nums F)) ∧ Hid (busyNums x.bl = F ++ trues k (x.bl.drop k)) ∧ Hid (Below w.heap.size w wr) ∧ Hid (Box wr w.heap.size [.bool x.up, .int .i64 x.now, .int .i64 x.su, .slice x.a1 x.D.words.length x.c1, .slice x.a2 x.D.flights.length x.c2, .slice x.a3 x.D.over.length x.c3, .slice x.aI x.LI.length x.cI, .int .i64 x.fr, .slice x.aB x.bl.length x.cB, .slice x.aC x.cl.length x.cC, .slice x.aN x.LN.length x.cN] 70) ∧ Hid (Box wr (w.heap.size + 1) [.int .i64 0, .slice none 0 0] 62) ∧ Hid (Box wr (w.heap.size + 1 + 1) [.int .i64 0, .slice fa F.length fc] 62) ∧ base ≤ wr.heap.size) (fun i _ => x.bl.length - (intOf i).toNat)
  case atStart => exact ⟨0, _, 0, [], Nat.zero_le _, rfl, by simp, O0, HI0, HB0, HP0, HX0, HY0, hz9⟩
  case round =>
    obtain ⟨k, fa, fc, F, hk, rfl, hF, HO, HI, HB, HP, HX, HY, hbw⟩ := hrel
    clear O0 HI0 HB0 HX0 HP0 HY0
    have hwz := (unhide HB).size
    have p8 := (unhide HP).cell 8
    simp only [List.getElem?_cons_zero, List.getElem?_cons_succ] at p8
    by_cases hlt : k < x.bl.length
    · obtain ⟨b, o, eb, hbb, hcell⟩ := (unhide H).at hlt
      rw [eb] at p8
      clear eb
      have q0 := (unhide HB).cell (p := ⟨b, o + k, none⟩) hbb
      rw [hcell k hlt] at q0
      have HT := hide (trues_drop hlt)
      have kl : (k : Int) < x.bl.length := by omega
      clear hcell
      generalize x.bl[k] = bk at *
      cases bk
      · have HI2 : Hid (busyNums x.bl = F ++ trues (k + 1) (x.bl.drop (k + 1))) := by rw [Hid, unhide HI, unhide HT]; rfl
        clear HI HT
        go_wp2_with fail
        go_roundw
        case rel => exact ⟨k + 1, fa, fc, F, by omega, by go_num, by omega, HO, HI2, HB, HP, HX, HY, hbw⟩
        case measure => simp [intOf]; omega
      · have HI2 : Hid (busyNums x.bl = (F ++ [(k : Int)]) ++ trues (k + 1) (x.bl.drop (k + 1))) := by rw [Hid, unhide HI, unhide HT, List.append_assoc]; rfl
        have OA := hide (own_below (unhide HO) ((Below.refl _ wr).alloc (Nat.le_refl _) (.cells #[.int .i64 (k : Int)] 2)))
        have PA := hide ((unhide HP).alloc (.cells #[.int .i64 (k : Int)] 2))
        have XA := hide ((unhide HX).alloc (.cells #[.int .i64 (k : Int)] 2))
        have YA := hide ((unhide HY).alloc (.cells #[.int .i64 (k : Int)] 2))
        have RA : Hid (RowAt (wr.alloc (.cells #[.int .i64 (k : Int)] 2)) (some ⟨wr.heap.size, 0, none⟩) (nums [(k : Int)])) := rowAt_newB wr [.int .i64 (k : Int)] 2
        have y1 := (unhide HY).cell 1
        simp only [List.getElem?_cons_zero, List.getElem?_cons_succ] at y1
        have ly : w.heap.size + 1 + 1 < wr.heap.size := by omega
        clear HI HT
        go_wp2_with (first
          | (at_builtin; refine wpList_append_xs _ rfl _ _ 24 rfl base 2 i0 _ 1 8 Try.underlying24 hii hz0 hz1 hz2 rfl (by decide) (by decide) (.slice fa F.length fc) F.length (nums F) rfl (unhide OA) _ 1 1 (nums [(k : Int)]) rfl rfl (unhide RA) (by simp [nums, Value.oneCell']) (by omega) (by simp; omega) ?_; intro v' w3 hown hgrow hloc; obtain ⟨a3, c3, e3, -⟩ := rowAt_own hown; subst e3; have HOW := hide hown; have HGR := hide hgrow; have Y3' := (unhide YA).grown hgrow (fun e => by have := ((unhide OA).lt _ e).1; omega); have y1' := Y3'.cell 1; have fy1 := Y3'.frozen 1; simp only [List.getElem?_cons_zero, List.getElem?_cons_succ] at y1'; have Y3 := hide Y3'; clear hown hgrow hloc Y3'))
        have O3 : Hid (w3.ownsRow base 2 1 (.slice a3 (F ++ [(k : Int)]).length c3) (F ++ [(k : Int)]).length (nums (F ++ [(k : Int)]))) := by
          rw [Hid, List.length_append, nums_append]; exact unhide HOW
        have P3 := hide ((unhide PA).grown (unhide HGR) (fun e => by have := ((unhide OA).lt _ e).1; omega))
        have X3 := hide ((unhide XA).grown (unhide HGR) (fun e => by have := ((unhide OA).lt _ e).1; omega))
        have B3 : Hid (Below w.heap.size w w3) := ((unhide HB).alloc hwz _).grown (unhide HGR) (by simp; omega) (fun q hq => by have := ((unhide OA).lt q hq).1; omega)
        have z3 : base ≤ w3.heap.size := by have := (unhide HGR).size; simp at this; omega
        have hll2 : (F ++ [(k : Int)]).length = F.length + 1 := by simp
        rw [← hll2]
        generalize hLL : F ++ [(k : Int)] = F2 at *
        have hF2 : F2.length ≤ k + 1 := by omega
        clear hLL hll2 HOW HGR OA XA PA YA RA HO HB HX HP HY q0 p8 y1 y1' fy1
        go_wp2_with fail
        generalize hV : w3.setCell _ _ = V
        have OV : Out (fun q => q = w.heap.size + 1 + 1) w3 V := out_set' (Out.refl _ _) hV (.inl rfl)
        have YV : Hid (Box V (w.heap.size + 1 + 1) [.int .i64 0, .slice a3 F2.length c3] 62) := (unhide Y3).set' hV
        have PV := hide ((unhide P3).out OV (by omega))
        have XV := hide ((unhide X3).out OV (by omega))
        have BV := hide (OV.below (unhide B3) (Nat.le_refl _) (fun q hq e => by omega))
        have QV := hide (OV.own (unhide O3) (fun q hq e => by have := ((unhide O3).lt q hq).1; omega))
        have zV := OV.size
        clear hV OV Y3 P3 X3 B3 O3
        go_roundw
        case rel => exact ⟨k + 1, a3, c3, F2, by omega, by go_num, hF2, QV, HI2, BV, PV, XV, YV, by omega⟩
        case measure => simp [intOf]; omega
    · have hke : k = x.bl.length := by omega
      have HI2 : Hid (busyNums x.bl = F) := by
        rw [Hid, unhide HI, hke, List.drop_length]; simp [trues]
      have kl : ¬ (k : Int) < x.bl.length := by omega
      have y0 := (unhide HX).cell 0
      have y1 := (unhide HX).cell 1
      have f0 := (unhide HX).frozen 0
      have f1 := (unhide HX).frozen 1
      have v0 := (unhide HY).cell 0
      have v1 := (unhide HY).cell 1
      simp at y0 y1 v0 v1
      clear HI hke
      go_wp2_with fail
      clear y0 y1 f0 f1 v0 v1
      generalize hU : (wr.setCell _ _).setCell _ _ = U
      obtain ⟨XU, OU⟩ := store2' (unhide HX) hU
      have t0 := (unhide XU).cell 0
      have t1 := (unhide XU).cell 1
      simp at t0 t1
      refine bodyPost_ret (v := .agg #[.int .i64 0, .slice fa F.length fc]) (by simp [results, Try.results22, go_sem, t0, t1]) rfl ⟨?_, ?_⟩
      · rw [(unhide HC).1, unhide HI2]
        exact ⟨fa, fc, rfl, own_base ((unhide OU).own (unhide HO) (fun q hq e => by have := ((unhide HO).lt q hq).1; omega)) (fun q hq => by have := ((unhide HO).lt q hq).1; omega)⟩
      · exact (unhide OU).below (unhide HB) (Nat.le_refl _) (fun q hq e => by omega)
end Go.Proofs.Ytaadbgebcknfkaa
