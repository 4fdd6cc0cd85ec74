/-
  What impl.ClockTo and spec.ClockTo answer.
-/
import Derived.Test.YtaadbgebcknfkaaClockWalk
import Derived.Test.YtaadbgebcknfkaaCloneWalk
import Derived.Test.YtaadbgebcknfkaaIntsWalk
import Derived.Test.YtaadbgebcknfkaaWideBox
import Derived.Lib.SlBuf
namespace Go.Proofs.Ytaadbgebcknfkaa
open Go.RowKit
set_option linter.unusedVariables false

def ctCode (l : List Int) (x : Int) : Int := if clockCode l = 0 then (if inB x (clockVal l) 9999 = true then 0 else 3) else clockCode l
def ctWords (l : List Int) (x : Int) : List Int := if ctCode l x = 0 then l.set 1 x else []
theorem ctWords_len (l : List Int) (x : Int) (h : l.length ≤ 1048576) : (ctWords l x).length ≤ 1048576 := by
  unfold ctWords
  split
  · rw [List.length_set]; exact h
  · simp
theorem clock_size {l : List Int} (h : clockCode l = 0) : 16 ≤ l.length ∧ l.length ≤ 328 := by
  have hs : sizeOk l.length = true := by
    by_cases hq : sizeOk l.length = true
    · exact hq
    · simp [clockCode, wordsCode, hq] at h
  simp [sizeOk] at hs
  omega
def zs57 : List Value := List.replicate 329 (.int .i64 0)
def shR (l : List Int) : List Value := (zs57.set 328 (.int .i64 l.length)).drop l.length
theorem shR_len {l : List Int} (h : l.length ≤ 328) : (nums l ++ shR l).length = 329 := by
  rw [List.length_append, nums_length, shR, List.length_drop, List.length_set, zs57, List.length_replicate]
  omega
theorem shR_at {l : List Int} (h : l.length ≤ 328) : (nums l ++ shR l)[328]? = some (.int .i64 l.length) := by
  rw [List.getElem?_append_right (by rw [nums_length]; omega), nums_length, shR, List.getElem?_drop, show l.length + (328 - l.length) = 328 by omega, List.getElem?_set_self (by rw [zs57, List.length_replicate]; omega)]
theorem shR_set {l m : List Int} (hm : m.length = l.length) (h : l.length ≤ 328) : (nums m ++ shR l)[328]? = some (.int .i64 m.length) := by
  have h9 := shR_at h
  rw [List.getElem?_append_right (by rw [nums_length]; omega), nums_length] at h9 ⊢
  rw [hm]
  exact h9
theorem shR_one {l : List Int} : ∀ v ∈ nums l ++ shR l, v.oneCell' = true := by
  intro v hv
  rcases List.mem_append.1 hv with h | h
  · simp [nums] at h
    obtain ⟨x, -, rfl⟩ := h
    rfl
  · have h := List.mem_of_mem_drop h
    rcases List.mem_or_eq_of_mem_set h with h | h
    · rw [List.eq_of_mem_replicate h]; rfl
    · rw [h]; rfl
theorem all_of {cs : List Value} (h : ∀ v ∈ cs, v.oneCell' = true) : cs.toArray.all (·.oneCell') = true := by
  rw [Array.all_eq_true_iff_forall_mem]
  intro v hv
  exact h v (by simpa using hv)
theorem zero57 (w : World) : (zeroValue 110).run Try.prog w = .ok (.agg zs57.toArray) w := by kernel_rfl
theorem size57 : (Try.prog.info? 110).map (·.size) = some 329 := by kernel_rfl
theorem slice55 (b : Nat) (w : World) : (Instr.sliceAt 108 (.pointer (some ⟨b, 0, none⟩)) none none none).run Try.prog w = .ok (.slice (some ⟨b, 0, none⟩) 328 328) w := by kernel_rfl
set_option maxRecDepth 20000 in
set_option maxHeartbeats 1000000 in
theorem sheetOf_any (a : Option Addr) (c : Nat) (l : List Int) (w : World) (h : IntsAt w a l) (h0 : 0 < l.length) (hn : l.length ≤ 328) :
    Calls Try.prog 51 #[.slice a l.length c] w fun r w' => r = .returned (.agg (nums l ++ shR l).toArray) ∧ Below w.heap.size w w' := by
  obtain ⟨b, o, rfl, hb, hc⟩ := h.at h0
  have hz := zero57
  have hsl := slice55
  obtain ⟨zs, hzs⟩ : ∃ zs, zs = zs57 := ⟨_, rfl⟩
  rw [← hzs] at hz
  have hzl : zs.length = 329 := by rw [hzs]; rfl
  have hz1 : ∀ v ∈ zs, v.oneCell' = true := fun v hv => by rw [hzs] at hv; rw [List.eq_of_mem_replicate hv]; rfl
  have hs1 : ∀ v ∈ zs.set 328 (.int .i64 (l.length : Int)), v.oneCell' = true := fun v hv => by
    rcases List.mem_or_eq_of_mem_set hv with h | h
    · exact hz1 v h
    · rw [h]; rfl
  have hR : shR l = (zs.set 328 (.int .i64 (l.length : Int))).drop l.length := by rw [hzs]; rfl
  obtain ⟨W, hW, hWz, HB, HX, HY⟩ := boxes2 w zs zs 110 110
  have HYW := hide (by rw [hW] at HY; exact unhide HY : Box ((w.alloc (.cells zs.toArray 110)).alloc (.cells zs.toArray 110)) (w.heap.size + 1) zs 110)
  have HXW := hide (by rw [hW] at HX; exact unhide HX : Box ((w.alloc (.cells zs.toArray 110)).alloc (.cells zs.toArray 110)) w.heap.size zs 110)
  have HBW := hide (by rw [hW] at HB; exact unhide HB : Below w.heap.size w ((w.alloc (.cells zs.toArray 110)).alloc (.cells zs.toArray 110)))
  have HC := hide hc
  have HZL := hide hzl
  have HZ1 := hide hz1
  have HS1 := hide hs1
  have HR := hide hR
  have h328 : 328 < zs.length := by omega
  clear hW hWz HB HX HY hzs hzl hz1 hs1 hR hc h
  have T3 : Hid (∀ w2 : World, Hid (Box w2 (w.heap.size + 1) (zs.take 0 ++ ((zs.set 328 (.int .i64 (l.length : Int))).toArray).toList ++ zs.drop (0 + ((zs.set 328 (.int .i64 (l.length : Int))).toArray).size)) 110) → Hid (Box w2 (w.heap.size + 1) (zs.set 328 (.int .i64 (l.length : Int))) 110)) := hide fun w2 X2 => by
    have h9 := unhide X2
    simp at h9
    exact hide h9
  have T4 : Hid (∀ w2 : World, Hid (Box w2 (w.heap.size + 1) (zs.set 328 (.int .i64 (l.length : Int))) 110) → Hid (Below w.heap.size w w2) → ∀ ty, (Builtin.copy_ #[24, 24] ty #[.slice (some ⟨w.heap.size + 1, 0, none⟩) 328 328, .slice (some ⟨b, o, none⟩) l.length c]).run Try.prog w2 = .ok (goInt (nums l).length) (w2.setRow (w.heap.size + 1) (nums l ++ shR l).toArray)) := hide fun w2 X3 B3 ty => by
    have h9 := run_copy_row Try.prog w2 24 24 ty 2 (w.heap.size + 1) 0 328 328 ⟨b, o, none⟩ l.length c _ 110 (nums l) Try.underlying24 (by kernel_rfl) (unhide X3) (by rw [nums_length]; exact (Nat.min_eq_left hn).symm) (fun j v hj => by
      have hjl : j < l.length := by have := (List.getElem?_eq_some_iff.1 hj).1; rwa [nums_length] at this
      rw [nums_at hjl] at hj
      rw [Go.WideShapes.add_plain, (unhide B3).cell (p := ⟨b, o + j, none⟩) hb, unhide HC j hjl]
      exact hj) (by simp [nums_length, unhide HZL]; omega) (fun v hv => shR_one (l := l) v (List.mem_append_left _ hv))
    rw [h9, unhide HR]
    simp [nums_length]
  go_enter Try.func51, Try.ntmps51
  go_wp2_with (first
    | (refine wpList_store_part rfl 110 (.tmp 3) (.tmp 6) rfl (w.heap.size + 1) 0 _ rfl rfl 110 zs (unhide HYW) (by rw [size57]; simp [unhide HZL]) (by simp) (all_of (unhide HS1)) ?_
       intro w2 X2 O2
       have X3 := unhide T3 w2 X2
       have Y3 := hide ((unhide HXW).out (unhide O2) (by show ¬ w.heap.size = w.heap.size + 1; omega))
       have B3 := hide ((unhide O2).below (unhide HBW) (Nat.le_refl _) (fun q hq e => by omega))
       have hcp := unhide T4 w2 X3 B3
       have X4 : Hid (Box (w2.setRow (w.heap.size + 1) (nums l ++ shR l).toArray) (w.heap.size + 1) (nums l ++ shR l) 110) := hide (setRow_heap w2 (w.heap.size + 1) _ _ 110 (0, 0) (unhide X3))
       have O4 : Hid (Out (fun q => q = w.heap.size + 1) w2 (w2.setRow (w.heap.size + 1) (nums l ++ shR l).toArray)) := hide ⟨rfl, rfl, rfl, by simp [World.setRow], fun q _ hq => setRow_other w2 (w.heap.size + 1) q _ hq⟩
       have Y4 := hide ((unhide Y3).out (unhide O4) (by show ¬ w.heap.size = w.heap.size + 1; omega))
       have B4 := hide ((unhide O4).below (unhide B3) (Nat.le_refl _) (fun q hq e => by omega))
       clear X2 O2 Y3 B3 O4)
    | (refine wpList_load_part rfl 110 (.tmp 3) rfl (w.heap.size + 1) 0 rfl 110 _ (nums l ++ shR l) (unhide X4) (by rw [List.drop_zero, List.take_length]) _ Try.underlying110 rfl (by rw [size57, shR_len hn]) ?_)
    | (refine wpList_store_part rfl 110 (.tmp 2) (.tmp 11) rfl w.heap.size 0 _ rfl rfl 110 zs (unhide Y4) (by rw [size57]; simp only [List.size_toArray, shR_len hn]) (by simp only [List.size_toArray, shR_len hn, unhide HZL]; omega) (all_of shR_one) ?_; intro w6 X6 O6))
  have X7 : Box w6 w.heap.size (nums l ++ shR l) 110 := by
    have h9 := unhide X6
    have e9 : ((nums l ++ shR l).toArray).size = 329 := by simp only [List.size_toArray]; exact shR_len hn
    rw [e9, List.drop_of_length_le (by rw [unhide HZL]; omega), List.take_zero, List.nil_append, List.append_nil] at h9
    exact h9
  have B7 := (unhide O6).below (unhide B4) (Nat.le_refl _) (fun q hq e => by omega)
  refine bodyPost_ret (results_cell_row Try.results51 _ w6 w.heap.size 110 _ (0, 0) _ rfl X7 Try.underlying110 rfl (by rw [size57]; simp only [List.size_toArray, shR_len hn])) rfl ⟨rfl, B7⟩
theorem slice55h (b n : Nat) (hn : n ≤ 328) (w : World) : (Instr.sliceAt 108 (.pointer (some ⟨b, 0, none⟩)) none (some (.int .i64 (n : Int))) none).run Try.prog w = .ok (.slice (some ⟨b, 0, none⟩) n 328) w := by
  have hu : Try.prog.underlying 108 = some (.array 328 2) := by kernel_rfl
  have hz := Try.sizeOf2
  have h0 : (0 : Int) ≤ n := by omega
  have h1 : (n : Int) ≤ ((328 : Nat) : Int) := by omega
  have e1 : (Instr.sureAddr (.pointer (some ⟨b, 0, none⟩))).run Try.prog w = .ok ⟨b, 0, none⟩ w := rfl
  have e2 : (Instr.sliceBound (.int .i64 (n : Int)) 328 .sliceAlen).run Try.prog w = .ok n w := by
    have h9 := run_sliceBound (P := Try.prog) w .i64 (n : Int) 328 .sliceAlen h0 (by omega)
    rw [Int.toNat_natCast] at h9
    exact h9
  simp [Instr.sliceAt, run_underlying hu, Instr.sliceBounds, hz, Addr.add, e1, e2]
set_option maxRecDepth 20000 in
set_option maxHeartbeats 1000000 in
theorem sheetList_any (m : List Int) (R : List Value) (w : World) (h0 : 0 < m.length) (hm : m.length ≤ 328) (hR : (nums m ++ R)[328]? = some (.int .i64 m.length)) :
    Calls Try.prog 52 #[.agg (nums m ++ R).toArray] w fun r w' => (∃ v, r = .returned v ∧ w'.ownsRow w.heap.size 2 1 v m.length (nums m)) ∧ Below w.heap.size w w' := by
  obtain ⟨W, hW, hWz, HB, HX⟩ := boxes1 w (nums m ++ R) 110
  have q := (unhide HX).cell 328
  rw [hR] at q
  have hsl := fun w => slice55h W.heap.size m.length hm w
  have hsl2 := fun w' => slice55h w.heap.size m.length hm w'
  have HI : Hid (IntsAt W (some ⟨w.heap.size, 0, none⟩) m) := hide (.inr ⟨w.heap.size, 0, rfl, by omega, fun i hi => by
    rw [Nat.zero_add, (unhide HX).cell i, List.getElem?_append_left (by rw [nums_length]; exact hi), nums_at hi]⟩)
  rw [hW] at q
  clear hsl hR
  go_enter Try.func52, Try.ntmps52
  go_wp2_with fail
  rw [← hW]
  refine (cloneInts_any (some ⟨w.heap.size, 0, none⟩) 328 m _ (unhide HI) h0 (by omega)).mono ?_
  rintro r w2 ⟨⟨v, rfl, ho⟩, hb⟩
  have B2 := hide (below_step (unhide HB) hb (by omega))
  have O2 := hide (own_base ho (fun q hq => by have h9 := (ho.lt q hq).1; omega : ∀ q, v.ownBlock = some q → w.heap.size ≤ q))
  clear ho hb hW q hsl2
  go_wp2_with fail
  go_ret
  exact ⟨⟨_, rfl, unhide O2⟩, unhide B2⟩
theorem ct_far {l : List Int} {x : Int} (h : clockCode l ≠ 0) : ctCode l x = clockCode l ∧ ctWords l x = [] := by
  have e : ctCode l x = clockCode l := by unfold ctCode; rw [if_neg h]
  exact ⟨e, by unfold ctWords; rw [e, if_neg h]⟩
theorem ct_out {l : List Int} {x : Int} (h : clockCode l = 0) (hb : inB x (clockVal l) 9999 = false) : ctCode l x = 3 ∧ ctWords l x = [] := by
  have e : ctCode l x = 3 := by unfold ctCode; rw [if_pos h, if_neg (by rw [hb]; decide)]
  exact ⟨e, by unfold ctWords; rw [e, if_neg (by decide)]⟩
theorem ct_in {l : List Int} {x : Int} (h : clockCode l = 0) (hb : inB x (clockVal l) 9999 = true) : ctCode l x = 0 ∧ ctWords l x = l.set 1 x := by
  have e : ctCode l x = 0 := by unfold ctCode; rw [if_pos h, if_pos hb]
  exact ⟨e, by unfold ctWords; rw [e, if_pos rfl]⟩
set_option maxRecDepth 20000 in
set_option maxHeartbeats 2000000 in
theorem specClockTo_any (a : Option Addr) (c : Nat) (l : List Int) (x : Int) (w : World) (h : IntsAt w a l) (hn : l.length ≤ 1048576) :
    Calls Try.prog 19 #[.slice a l.length c, .int .i64 x] w fun r w' => (∃ v, r = .returned (.agg #[.int .i64 (ctCode l x), v]) ∧ w'.ownsRow w.heap.size 2 1 v (ctWords l x).length (nums (ctWords l x))) ∧ Below w.heap.size w w' := by
  obtain ⟨W, hW, hWz, HB0, HX0⟩ := boxes1 w [.int .i64 0, .slice none 0 0] 47
  have H := hide (h.below (unhide HB0))
  clear h
  go_enter Try.func19, Try.ntmps19
  go_wp2_with fail
  rw [← hW]
  clear hW
  refine (specClockOf_any a c l _ (unhide H) hn).mono ?_
  rintro r w1 ⟨rfl, hb1⟩
  have X1 := hide ((unhide HX0).below hb1)
  have I1 := hide ((unhide H).below hb1)
  have B1 := hide (below_step (unhide HB0) hb1 (by omega))
  have z1 : w.heap.size < w1.heap.size := by have := hb1.size; omega
  clear hb1 HX0 HB0 H
  obtain ⟨W2, hW2, z2, hbx, hx⟩ := boxes1 w1 [.int .i64 (clockCode l), .int .i64 (clockVal l)] 50
  have X2 := hide ((unhide X1).below (unhide hbx))
  have I2 := hide ((unhide I1).below (unhide hbx))
  have B2 := hide (below_step (unhide B1) (unhide hbx) (by omega))
  have V2 := hx
  clear hbx hx I1
  by_cases hc0 : clockCode l = 0
  case neg =>
    obtain ⟨k1, k2⟩ := ct_far (x := x) hc0
    have K1 := hide k1
    have K2 := hide k2
    clear k1 k2
    generalize clockCode l = cc at *
    have e0 : (cc != 0) = true := by simpa using hc0
    clear hc0
    have q0 := (unhide X1).cell 0
    have q1 := (unhide X1).cell 1
    have f0 := (unhide X1).frozen 0
    have f1 := (unhide X1).frozen 1
    simp only [List.getElem?_cons_zero, List.getElem?_cons_succ] at q0 q1
    clear hW2 V2 X2 I2 B2 z2
    go_wp2_with fail
    clear q0 q1 f0 f1
    generalize hU : (w1.setCell _ _).setCell _ _ = U at *
    obtain ⟨XU, OU⟩ := store2' (unhide X1) hU
    have zU := (unhide OU).size
    have t0 := ((unhide XU).alloc (.cells #[.int .i64 cc, .int .i64 (clockVal l)] 50)).cell 0
    have t1 := ((unhide XU).alloc (.cells #[.int .i64 cc, .int .i64 (clockVal l)] 50)).cell 1
    simp only [List.getElem?_cons_zero, List.getElem?_cons_succ] at t0 t1
    have BU := ((unhide OU).below (unhide B1) (Nat.le_refl _) (fun q hq e => by omega)).alloc (show w.heap.size ≤ U.heap.size by omega) (.cells #[.int .i64 cc, .int .i64 (clockVal l)] 50)
    refine bodyPost_ret (v := .agg #[.int .i64 cc, .slice none 0 0]) (by simp [results, Try.results19, go_sem, t0, t1]) rfl ⟨⟨_, by rw [unhide K1], by rw [unhide K2]; exact World.ownsRow_nil _ _ _ _⟩, BU⟩
  case pos =>
    obtain ⟨s1, s2⟩ := clock_size hc0
    have HC0 := hide hc0
    have e0 : (clockCode l != 0) = false := by simpa using hc0
    clear hc0
    go_wp2_with fail
    rw [← hW2]
    clear hW2 X1 B1
    refine (l1In_any _ _ _ _).mono ?_
    rintro r w3 ⟨rfl, rfl⟩
    have q0 := (unhide X2).cell 0
    have q1 := (unhide X2).cell 1
    have f0 := (unhide X2).frozen 0
    have f1 := (unhide X2).frozen 1
    simp only [List.getElem?_cons_zero, List.getElem?_cons_succ] at q0 q1
    cases hb : inB x (clockVal l) 9999
    case false =>
      obtain ⟨k1, k2⟩ := ct_out (unhide HC0) hb
      have K1 := hide k1
      have K2 := hide k2
      clear k1 k2
      go_wp2_with fail
      clear q0 q1 f0 f1
      generalize hU : (w3.setCell _ _).setCell _ _ = U at *
      obtain ⟨XU, OU⟩ := store2' (unhide X2) hU
      have t0 := (unhide XU).cell 0
      have t1 := (unhide XU).cell 1
      simp at t0 t1
      have BU := (unhide OU).below (unhide B2) (Nat.le_refl _) (fun q hq e => by omega)
      refine bodyPost_ret (v := .agg #[.int .i64 3, .slice none 0 0]) (by simp [results, Try.results19, go_sem, t0, t1]) rfl ⟨⟨_, by rw [unhide K1], by rw [unhide K2]; exact World.ownsRow_nil _ _ _ _⟩, BU⟩
    case true =>
      obtain ⟨k1, k2⟩ := ct_in (unhide HC0) hb
      have K1 := hide k1
      have K2 := hide k2
      have hm : (l.set 1 x).length = l.length := List.length_set
      have HM := hide hm
      clear k1 k2 hm q0 q1 f0 f1
      go_wp2_with fail
      refine (l1Ints_any a c l _ (unhide I2) (by omega) hn).mono ?_
      rintro r w4 ⟨⟨v, rfl, ho⟩, hb4⟩
      obtain ⟨g, cap, ev⟩ : ∃ g cap, v = .slice (some ⟨g, 0, none⟩) l.length cap := by
        rcases ho.2 with ⟨_, h9⟩ | ⟨g, cap, cur, e, _⟩
        · omega
        · exact ⟨g, cap, e⟩
      subst ev
      have z4 := hb4.size
      have hg := ho.lt g rfl
      obtain ⟨hst, hgr⟩ := ho.stored 1 (.int .i64 x)
      have hkc := ho.cellAt 1 (by omega)
      have hfz := ho.frozenAt 1
      rw [nums_at (by omega)] at hkc
      have HS : Hid ((w4.setCell ⟨g, 1, none⟩ (.int .i64 x)).ownsRow w3.heap.size 2 1 (.slice (some ⟨g, 0, none⟩) l.length cap) l.length (nums (l.set 1 x))) := hide (by rw [← nums_set]; exact hst)
      have X4 := hide (((unhide X2).below hb4).set_other (p := ⟨g, 1, none⟩) (by show w.heap.size ≠ g; omega) (.int .i64 x))
      have B4 := hide ((below_step (unhide B2) hb4 (by omega)).setCell (p := ⟨g, 1, none⟩) (by show w.heap.size ≤ g; omega) (.int .i64 x))
      have X5 := (unhide X2).below hb4
      have q0 := X5.cell 0
      have q1 := X5.cell 1
      have f0 := X5.frozen 0
      have f1 := X5.frozen 1
      simp only [List.getElem?_cons_zero, List.getElem?_cons_succ] at q0 q1
      have n1 : g ≠ w.heap.size := by omega
      have n2 : w.heap.size ≠ g := by omega
      have h1l : (1 : Int) < l.length := by omega
      clear hst hgr ho hb4 X5
      go_wp2_with fail
      clear q0 q1 f0 f1 hkc hfz
      generalize hV : w4.setCell ⟨g, 1, none⟩ (.int .i64 x) = V at *
      have zV : w4.heap.size ≤ V.heap.size := size_set' hV
      generalize hU : (V.setCell _ _).setCell _ _ = U at *
      obtain ⟨XU, OU⟩ := store2' (unhide X4) hU
      have t0 := (unhide XU).cell 0
      have t1 := (unhide XU).cell 1
      simp at t0 t1
      have BU := (unhide OU).below (unhide B4) (Nat.le_refl _) (fun q hq e => by omega)
      have OW := (unhide OU).own (unhide HS) (fun q hq e => by cases hq; exact n1 e)
      refine bodyPost_ret (v := .agg #[.int .i64 0, .slice (some ⟨g, 0, none⟩) l.length cap]) (by simp [results, Try.results19, go_sem, t0, t1]) rfl ⟨⟨_, by rw [unhide K1], by rw [unhide K2, unhide HM]; exact own_base OW (fun q hq => by cases hq; show w.heap.size ≤ g; omega)⟩, BU⟩
set_option maxRecDepth 20000 in
set_option maxHeartbeats 2000000 in
theorem implClockTo_any (a : Option Addr) (c : Nat) (l : List Int) (x : Int) (w : World) (h : IntsAt w a l) (hn : l.length ≤ 1048576) :
    Calls Try.prog 18 #[.slice a l.length c, .int .i64 x] w fun r w' => (∃ v, r = .returned (.agg #[.int .i64 (ctCode l x), v]) ∧ w'.ownsRow w.heap.size 2 1 v (ctWords l x).length (nums (ctWords l x))) ∧ Below w.heap.size w w' := by
  obtain ⟨W, hW, hWz, HB0, HX0⟩ := boxes1 w [.int .i64 0, .slice none 0 0] 47
  have H := hide (h.below (unhide HB0))
  clear h
  go_enter Try.func18, Try.ntmps18
  go_wp2_with fail
  rw [← hW]
  clear hW
  refine (implClockOf_any a c l _ (unhide H) hn).mono ?_
  rintro r w1 ⟨rfl, hb1⟩
  have X1 := hide ((unhide HX0).below hb1)
  have I1 := hide ((unhide H).below hb1)
  have B1 := hide (below_step (unhide HB0) hb1 (by omega))
  have z1 : w.heap.size < w1.heap.size := by have := hb1.size; omega
  clear hb1 HX0 HB0 H
  obtain ⟨W2, hW2, z2, hbx, hx⟩ := boxes1 w1 [.int .i64 (clockCode l), .int .i64 (clockVal l)] 50
  have X2 := hide ((unhide X1).below (unhide hbx))
  have I2 := hide ((unhide I1).below (unhide hbx))
  have B2 := hide (below_step (unhide B1) (unhide hbx) (by omega))
  have V2 := hx
  clear hbx hx I1
  by_cases hc0 : clockCode l = 0
  case neg =>
    obtain ⟨k1, k2⟩ := ct_far (x := x) hc0
    have K1 := hide k1
    have K2 := hide k2
    clear k1 k2
    generalize clockCode l = cc at *
    have e0 : (cc != 0) = true := by simpa using hc0
    clear hc0
    have q0 := (unhide X1).cell 0
    have q1 := (unhide X1).cell 1
    have f0 := (unhide X1).frozen 0
    have f1 := (unhide X1).frozen 1
    simp only [List.getElem?_cons_zero, List.getElem?_cons_succ] at q0 q1
    clear hW2 V2 X2 I2 B2 z2
    go_wp2_with fail
    clear q0 q1 f0 f1
    generalize hU : (w1.setCell _ _).setCell _ _ = U at *
    obtain ⟨XU, OU⟩ := store2' (unhide X1) hU
    have zU := (unhide OU).size
    have t0 := ((unhide XU).alloc (.cells #[.int .i64 cc, .int .i64 (clockVal l)] 50)).cell 0
    have t1 := ((unhide XU).alloc (.cells #[.int .i64 cc, .int .i64 (clockVal l)] 50)).cell 1
    simp only [List.getElem?_cons_zero, List.getElem?_cons_succ] at t0 t1
    have BU := ((unhide OU).below (unhide B1) (Nat.le_refl _) (fun q hq e => by omega)).alloc (show w.heap.size ≤ U.heap.size by omega) (.cells #[.int .i64 cc, .int .i64 (clockVal l)] 50)
    refine bodyPost_ret (v := .agg #[.int .i64 cc, .slice none 0 0]) (by simp [results, Try.results18, go_sem, t0, t1]) rfl ⟨⟨_, by rw [unhide K1], by rw [unhide K2]; exact World.ownsRow_nil _ _ _ _⟩, BU⟩
  case pos =>
    obtain ⟨s1, s2⟩ := clock_size hc0
    have HC0 := hide hc0
    have e0 : (clockCode l != 0) = false := by simpa using hc0
    clear hc0
    go_wp2_with fail
    rw [← hW2]
    clear hW2 X1 B1
    refine (isWithin_any _ _ _ _).mono ?_
    rintro r w3 ⟨rfl, rfl⟩
    have q0 := (unhide X2).cell 0
    have q1 := (unhide X2).cell 1
    have f0 := (unhide X2).frozen 0
    have f1 := (unhide X2).frozen 1
    simp only [List.getElem?_cons_zero, List.getElem?_cons_succ] at q0 q1
    cases hb : inB x (clockVal l) 9999
    case false =>
      obtain ⟨k1, k2⟩ := ct_out (unhide HC0) hb
      have K1 := hide k1
      have K2 := hide k2
      clear k1 k2
      go_wp2_with fail
      clear q0 q1 f0 f1
      generalize hU : (w3.setCell _ _).setCell _ _ = U at *
      obtain ⟨XU, OU⟩ := store2' (unhide X2) hU
      have t0 := (unhide XU).cell 0
      have t1 := (unhide XU).cell 1
      simp at t0 t1
      have BU := (unhide OU).below (unhide B2) (Nat.le_refl _) (fun q hq e => by omega)
      refine bodyPost_ret (v := .agg #[.int .i64 3, .slice none 0 0]) (by simp [results, Try.results18, go_sem, t0, t1]) rfl ⟨⟨_, by rw [unhide K1], by rw [unhide K2]; exact World.ownsRow_nil _ _ _ _⟩, BU⟩
    case true =>
      obtain ⟨k1, k2⟩ := ct_in (unhide HC0) hb
      have K1 := hide k1
      have K2 := hide k2
      have hm : (l.set 1 x).length = l.length := List.length_set
      have HM := hide hm
      clear k1 k2 hm q0 q1 f0 f1
      have hR := shR_at s2
      have hLn := shR_len s2
      have hz := zero57
      obtain ⟨zs, hzs⟩ : ∃ zs, zs = zs57 := ⟨_, rfl⟩
      have hzl : zs.length = 329 := by rw [hzs]; rfl
      rw [← hzs] at hz
      have HZL := hide hzl
      have HRR := hide hR
      have HLN := hide hLn
      clear hzs hzl hR hLn
      go_wp2_with fail
      refine (sheetOf_any a c l _ (unhide I2) (by omega) s2).mono ?_
      rintro r w4 ⟨rfl, hb4⟩
      have z4 := hb4.size
      have X4 := hide ((unhide X2).below hb4)
      have B4 := hide (below_step (unhide B2) hb4 (by omega))
      clear hb4
      obtain ⟨cs, hcs⟩ : ∃ cs, cs = nums l ++ shR l := ⟨_, rfl⟩
      have hone : ∀ v ∈ cs, v.oneCell' = true := by rw [hcs]; exact shR_one
      have hcl : cs.length = 329 := by rw [hcs]; exact unhide HLN
      have hcx : cs.set 1 (.int .i64 x) = nums (l.set 1 x) ++ shR l := by rw [hcs, List.set_append_left _ _ (by rw [nums_length]; omega), nums_set]
      have hc1 : ∃ u, cs[1]? = some u := ⟨_, List.getElem?_eq_getElem (by omega)⟩
      obtain ⟨u1, hu1⟩ := hc1
      rw [← hcs]
      have HON := hide hone
      have HCL := hide hcl
      have HCX := hide hcx
      have HU1 := hide hu1
      clear hcs hone hcl hcx hu1
      have hXn := hide (box_new w4 zs 110)
      have B5 := hide ((unhide B4).alloc (show w.heap.size ≤ w4.heap.size by omega) (.cells zs.toArray 110))
      have X5 := hide ((unhide X4).alloc (.cells zs.toArray 110))
      go_wp2_with (first
        | (refine wpList_store_part rfl 110 (.tmp 6) (.tmp 22) rfl w4.heap.size 0 _ rfl rfl 110 zs (unhide hXn) (by rw [size57]; simp only [List.size_toArray, unhide HCL]) (by simp only [List.size_toArray, unhide HCL, unhide HZL]; omega) (all_of (unhide HON)) ?_
           intro w6 X6 O6
           have Y6 : Hid (Box w6 w4.heap.size cs 110) := (by have h9 := unhide X6; have e9 : (cs.toArray).size = 329 := (by simp only [List.size_toArray]; exact unhide HCL); rw [e9, List.drop_of_length_le (by rw [unhide HZL]; omega), List.take_zero, List.nil_append, List.append_nil] at h9; exact hide h9)
           have X7 := hide ((unhide X5).out (unhide O6) (by show ¬ w.heap.size = w4.heap.size; omega))
           have B7 := hide ((unhide O6).below (unhide B5) (Nat.le_refl _) (fun q hq e => by omega))
           have z6 : w4.heap.size < w6.heap.size := (unhide Y6).lt
           have y1 := (unhide Y6).cell 1
           rw [unhide HU1] at y1
           have g1 := (unhide Y6).frozen 1
           have Y8 := hide ((unhide Y6).set 1 (.int .i64 x))
           clear X6 O6)
        | (refine wpList_load_part rfl 110 (.tmp 6) rfl w4.heap.size 0 rfl 110 _ (cs.set 1 (.int .i64 x)) (unhide Y8) (by rw [List.drop_zero, List.take_length]) _ Try.underlying110 rfl (by rw [size57, List.length_set, unhide HCL]) ?_))
      rw [unhide HCX]
      clear y1 g1
      have X9 := hide ((unhide X7).set_other (p := ⟨w4.heap.size, 1, none⟩) (by show w.heap.size ≠ w4.heap.size; omega) (.int .i64 x))
      have B9 := hide ((unhide B7).setCell (p := ⟨w4.heap.size, 1, none⟩) (by show w.heap.size ≤ w4.heap.size; omega) (.int .i64 x))
      generalize hV : w6.setCell ⟨w4.heap.size, 1, none⟩ (.int .i64 x) = V at *
      have zV : w6.heap.size ≤ V.heap.size := size_set' hV
      refine (sheetList_any (l.set 1 x) (shR l) _ (by rw [unhide HM]; omega) (by rw [unhide HM]; exact s2) (shR_set (unhide HM) s2)).mono ?_
      rintro r w10 ⟨⟨v, rfl, ho⟩, hb10⟩
      obtain ⟨av, cv, ev, -, -, -, -⟩ := intsAt_own ho
      subst ev
      have z10 := hb10.size
      have X10 := hide ((unhide X9).below hb10)
      have B10 := hide (below_step (unhide B9) hb10 (by omega))
      have O10 := hide ho
      have L10 := hide (fun q hq => (ho.lt q hq).1)
      clear ho hb10
      have q0 := (unhide X10).cell 0
      have q1 := (unhide X10).cell 1
      have f0 := (unhide X10).frozen 0
      have f1 := (unhide X10).frozen 1
      simp only [List.getElem?_cons_zero, List.getElem?_cons_succ] at q0 q1
      go_wp2_with fail
      clear q0 q1 f0 f1
      generalize hU : (w10.setCell _ _).setCell _ _ = U at *
      obtain ⟨XU, OU⟩ := store2' (unhide X10) hU
      have t0 := (unhide XU).cell 0
      have t1 := (unhide XU).cell 1
      simp at t0 t1
      have BU := (unhide OU).below (unhide B10) (Nat.le_refl _) (fun q hq e => by omega)
      have OW := (unhide OU).own (unhide O10) (fun q hq e => by have h9 := unhide L10 q hq; omega)
      refine bodyPost_ret (v := .agg #[.int .i64 0, .slice av (l.set 1 x).length cv]) (by simp [results, Try.results18, go_sem, t0, t1]) rfl ⟨⟨_, by rw [unhide K1], by rw [unhide K2]; exact own_base OW (fun q hq => by have h9 := unhide L10 q hq; omega)⟩, BU⟩
end Go.Proofs.Ytaadbgebcknfkaa
