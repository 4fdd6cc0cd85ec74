/-
  What spec.FreeIn and impl.FreeIn answer.
-/
import Derived.Test.YtdijmijipgnlgaaVersInWalk
namespace Go.Proofs.Ytdijmijipgnlgaa
open Go.RowKit
set_option linter.unusedVariables false

theorem img_bad (ws : List Int) : imgCode ws ≠ 0 → imgVers ws = [] ∧ imgFree ws = [] := by
  intro h
  unfold imgCode at h
  unfold imgVers imgFree
  split
  · rename_i hc; rw [if_pos hc] at h; exact imgRun_bad h
  · exact ⟨rfl, rfl⟩
/-- The lines from k on whose first word is 0. -/
def zeroLines : Nat → Int → List Int → List Int
  | 0, _, _ => []
  | n + 1, line, ws => (if ws.getD 0 0 = 0 then [line] else []) ++ zeroLines n (line + 1) (ws.drop 8)
theorem whOk_zero {x : Int} (h : whOk x = true) (hk : x % 4 = 0) : x = 0 := by
  simp only [whOk, Bool.and_eq_true] at h
  have hb := inB_true.1 h.1
  have h2 := h.2
  rw [hk] at h2
  simp [headOk] at h2
  omega
theorem take_zero (ws : List Int) : (ws.take 8).getD 0 0 = ws.getD 0 0 := by
  cases ws <;> simp
theorem free_zero (clock : Int) : ∀ (n : Nat) (line : Int) (ws : List Int), (imgRun clock n line ws).1 = 0 → (imgRun clock n line ws).2.2 = zeroLines n line ws
  | 0, _, _, _ => rfl
  | n + 1, line, ws, h => by
    have ih := free_zero clock n (line + 1) (ws.drop 8)
    unfold imgRun at h ⊢
    unfold zeroLines
    split at h
    · rename_i h0
      rw [if_pos h0]
      split at h
      · rename_i h1
        rw [if_pos h1]
        simp only
        rw [ih h1]
        congr 1
        unfold stepFree
        rw [take_zero]
        unfold stepCode at h0
        rw [take_zero] at h0
        split at h0
        · rename_i hok
          by_cases hz : ws.getD 0 0 = 0
          · rw [if_pos hz, if_pos (by rw [hz]; rfl)]
          · rw [if_neg hz, if_neg (fun e => hz (whOk_zero hok e))]
        · cases h0
      · rename_i h1; exact absurd h h1
    · rename_i h0; exact absurd h h0
def IRes (e : Ending) (base : Nat) (w' : World) (code : Int) (l : List Int) : Prop := ∃ a c, e = .returned (.agg #[.int .i64 code, .slice a l.length c]) ∧ w'.ownsRow base 2 1 (.slice a l.length c) l.length (nums l)
theorem imgFree_len (ws : List Int) (hn : ws.length ≤ 1048576) : (imgFree ws).length ≤ 1048576 := by
  unfold imgFree
  split
  · have := (imgRun_len (clockVal ws) (ws.length / 8 - 1) 1 (ws.drop 8)).2; omega
  · simp
set_option maxRecDepth 20000 in
set_option maxHeartbeats 2000000 in
theorem implFreeIn_any (a : Option Addr) (c : Nat) (ws : List Int) (w : World) (h : IntsAt w a ws) (hcl : ws.length ≤ c) (hcm : c ≤ 10000000) (hn : ws.length ≤ 1048576) :
    Calls Try.prog 79 #[.slice a ws.length c] w fun e w' => IRes e w.heap.size w' (imgCode ws) (imgFree ws) ∧ Below w.heap.size w w' := by
  have H := hide h
  clear h
  have HBAD := hide (img_bad ws)
  go_enter Try.func79, Try.ntmps79
  go_wp2_with fail
  obtain ⟨W, hW, z1, hb, hx⟩ := boxes1 w [.int .i64 0, .slice none 0 0] 105
  rw [← hW]
  clear hW
  refine (implImageOf_any a c ws _ ((unhide H).below (unhide hb)) hcl hcm hn).mono ?_
  rintro e w2 ⟨⟨vv, fv, L, rfl, hV, hF, hsep, hM⟩, hb2⟩
  have z2 := hb2.size
  obtain ⟨va, vc, ev⟩ := hV.form
  obtain ⟨fa, fc, ef, -⟩ := rowAt_own hF
  subst ev ef
  generalize hFF : imgFree ws = FF at *
  generalize hCC : imgClk ws = CC at *
  obtain ⟨W2, hW2, z3, hb3, hx3⟩ := boxes1 w2 [.int .i64 CC, .slice va L.length vc, .slice fa FF.length fc] 180
  have B3 := hide (below_step (below_step (unhide hb) hb2 (by omega)) (unhide hb3) (by omega))
  have X3 := hide (((unhide hx).below hb2).below (unhide hb3))
  have F3 := hide (own_below hF (unhide hb3))
  have v1 := (unhide hx3).cell 2
  have y0 := (unhide X3).cell 0
  have y1 := (unhide X3).cell 1
  have f0 := (unhide X3).frozen 0
  have f1 := (unhide X3).frozen 1
  simp at v1 y0 y1
  have HFF := hide hFF
  rw [hW2] at v1 y0 y1 f0 f1
  clear hb2 hb3 hx3 hb hx hF hV hsep hFF hCC hM
  by_cases hc : imgCode ws = 0
  case neg =>
    have hcb : (imgCode ws != 0) = true := by simpa using hc
    have HFN : Hid (FF = []) := (unhide HBAD hc).2
    generalize hcd : imgCode ws = cd at *
    have HCD := hide hcd
    clear hc hcd
    go_wp2_with fail
    rw [← hW2]
    clear y0 y1 f0 f1 v1 hW2
    generalize hU : (W2.setCell _ _).setCell _ _ = U
    obtain ⟨XU, OU⟩ := store2' (unhide X3) hU
    have t0 := (unhide XU).cell 0
    have t1 := (unhide XU).cell 1
    simp at t0 t1
    refine bodyPost_ret (v := .agg #[.int .i64 cd, .slice none 0 0]) (by simp [results, Try.results79, go_sem, t0, t1]) rfl ⟨?_, ?_⟩
    · rw [unhide HCD, unhide HFF, unhide HFN]
      exact ⟨none, 0, rfl, World.ownsRow_nil _ _ _ _⟩
    · exact (unhide OU).below (unhide B3) (Nat.le_refl _) (fun q hq e => by omega)
  have HCD := hide hc
  rw [hc]
  clear hc
  go_wp2_with fail
  rw [← hW2]
  clear y0 y1 f0 f1 v1 hW2
  generalize hU : (W2.setCell _ _).setCell _ _ = U
  obtain ⟨XU, OU⟩ := store2' (unhide X3) hU
  have t0 := (unhide XU).cell 0
  have t1 := (unhide XU).cell 1
  simp at t0 t1
  refine bodyPost_ret (v := .agg #[.int .i64 0, .slice fa FF.length fc]) (by simp [results, Try.results79, go_sem, t0, t1]) rfl ⟨?_, ?_⟩
  · rw [unhide HCD, unhide HFF]
    exact ⟨fa, fc, rfl, own_base ((unhide OU).own (unhide F3) (fun q hq e => by have := ((unhide F3).lt q hq).1; omega)) (fun q hq => by have := ((unhide F3).lt q hq).1; omega)⟩
  · exact (unhide OU).below (unhide B3) (Nat.le_refl _) (fun q hq e => by omega)
set_option maxRecDepth 20000 in
set_option maxHeartbeats 2000000 in
theorem specFreeIn_any (a : Option Addr) (c : Nat) (ws : List Int) (w : World) (h : IntsAt w a ws) (hcl : ws.length ≤ c) (hcm : c ≤ 10000000) (hn : ws.length ≤ 1048576) :
    Calls Try.prog 78 #[.slice a ws.length c] w fun e w' => IRes e w.heap.size w' (imgCode ws) (imgFree ws) ∧ Below w.heap.size w w' := by
  obtain ⟨i0, hii, hz0, hz1, hz2⟩ := info_parts infoInt64
  have H := hide h
  clear h
  go_enter Try.func78, Try.ntmps78
  go_wp2_with fail
  obtain ⟨W, hW, z1, hb, hx⟩ := boxes1 w [.int .i64 0, .slice none 0 0] 105
  rw [← hW]
  clear hW
  refine (specVersionsIn_any a c ws _ ((unhide H).below (unhide hb)) hcl hcm hn).mono ?_
  rintro e w2 ⟨⟨v, L, rfl, hV, hM⟩, hb2⟩
  have z2 := hb2.size
  obtain ⟨va, vc, ev⟩ := hV.form
  subst ev
  obtain ⟨W2, hW2, z3, hb3, hx3⟩ := boxes1 w2 [.int .i64 (imgCode ws), .slice va L.length vc] 99
  have B3 := hide (below_step (below_step (unhide hb) hb2 (by omega)) (unhide hb3) (by omega))
  have X3 := hide (((unhide hx).below hb2).below (unhide hb3))
  have v0 := (unhide hx3).cell 0
  simp at v0
  clear hb2 hb3 hx3 hb hx hV hM
  by_cases hc : imgCode ws = 0
  case neg =>
    have hcb : (imgCode ws != 0) = true := by simpa using hc
    have HC : Hid (imgFree ws = []) := (img_bad ws hc).2
    have y0 := (unhide X3).cell 0
    have y1 := (unhide X3).cell 1
    have f0 := (unhide X3).frozen 0
    have f1 := (unhide X3).frozen 1
    simp at y0 y1
    generalize hcd : imgCode ws = cd at *
    have HCD := hide hcd
    clear hc hcd
    rw [hW2] at v0 y0 y1 f0 f1
    go_wp2_with fail
    rw [← hW2]
    clear y0 y1 f0 f1 v0 hW2
    generalize hU : (W2.setCell _ _).setCell _ _ = U
    obtain ⟨XU, OU⟩ := store2' (unhide X3) hU
    have t0 := (unhide XU).cell 0
    have t1 := (unhide XU).cell 1
    simp at t0 t1
    refine bodyPost_ret (v := .agg #[.int .i64 cd, .slice none 0 0]) (by simp [results, Try.results78, go_sem, t0, t1]) rfl ⟨?_, ?_⟩
    · rw [unhide HCD, unhide HC]
      exact ⟨none, 0, rfl, World.ownsRow_nil _ _ _ _⟩
    · exact (unhide OU).below (unhide B3) (Nat.le_refl _) (fun q hq e => by omega)
  have hcc : clockCode ws = 0 := by
    unfold imgCode at hc
    split at hc
    · assumption
    · exact hc
  obtain ⟨hv1, hv2, hsz⟩ := clockVal_bounds hcc
  have hsz' : 16 ≤ ws.length ∧ ws.length % 8 = 0 ∧ ws.length ≤ 328 := by simp [sizeOk] at hsz; omega
  have HZ : Hid (imgFree ws = [] ++ zeroLines (ws.length / 8 - 1) (1 : Nat) (ws.drop (8 * 1))) := by
    rw [Hid]
    unfold imgFree imgCode at *
    rw [if_pos hcc] at hc ⊢
    exact free_zero _ _ _ _ hc
  have HCD := hide hc
  obtain ⟨b, o, rfl, hb0, -⟩ := (unhide H).at (k := 0) (by omega)
  rw [hc] at v0 hW2 ⊢
  clear hc hcc hv1 hv2 hsz
  have htd : (ws.length : Int).tdiv 8 = (ws.length : Int) / 8 := Int.tdiv_eq_ediv_of_nonneg (by omega)
  have hdv : -9223372036854775808 ≤ (ws.length : Int) / 8 ∧ (ws.length : Int) / 8 ≤ 9223372036854775807 := by omega
  have O0 : Hid ((W2.alloc (.cells #[] 2)).ownsRow W2.heap.size 2 1 (.slice (some ⟨w2.heap.size + 1, 0, none⟩) 0 0) 0 (nums [])) := by
    have := World.ownsRow_made (base := W2.heap.size) (e := 2) (size := 1) W2 #[] 0 (Nat.le_refl _) (by unfold maxLen; omega) rfl
    rw [show W2.heap.size = w2.heap.size + 1 by rw [hW2, World.size_alloc]] at this ⊢
    exact this
  have B0 := hide ((unhide B3).alloc (by omega) (.cells #[] 2))
  have X0 := hide ((unhide X3).alloc (.cells #[] 2))
  have hbz : w.heap.size < W2.heap.size := by omega
  have hz9 : W2.heap.size ≤ (W2.alloc (.cells #[] 2)).heap.size := by simp
  rw [hW2] at v0
  go_wp2_with fail
  rw [← hW2]
  clear v0 hW2 B3 X3
  generalize hbs : W2.heap.size = base at *
  clear hbs
  go_loopw [4, 5] (fun v i wr => ∃ (k : Nat) (fa : Option Addr) (fc : Nat) (F : List Int), 1 ≤ k ∧ 8 * k ≤ ws.length ∧ i = .int .i64 k ∧ v = .slice fa F.length fc ∧ F.length ≤ k ∧ Hid (wr.ownsRow base 2 1 (.slice fa F.length fc) F.length (nums F)) ∧ Hid (imgFree ws = F ++ zeroLines (ws.length / 8 - k) k (ws.drop (8 * k))) ∧ Hid (Below w.heap.size w wr) ∧ Hid (Box wr w.heap.size [.int .i64 0, .slice none 0 0] 105) ∧ base ≤ wr.heap.size) (fun _ i _ => ws.length - (intOf i).toNat)
  case atStart => exact ⟨1, _, 0, [], Nat.le_refl _, by omega, rfl, rfl, by simp, O0, HZ, B0, X0, hz9⟩
  case round =>
    obtain ⟨k, fa, fc, F, hk1, hk2, rfl, rfl, hF, HO, HI, HB, HX, hbw⟩ := hrel
    clear O0 HZ B0 X0
    have hwz := (unhide HB).size
    by_cases hlt : 8 * k + 8 ≤ ws.length
    · obtain ⟨b', o', eb, hbb, hcell⟩ := ((unhide H).below (unhide HB)).at (k := 8 * k) (by omega)
      cases eb
      have q0 := hcell (8 * k) (by omega)
      have hgd : (ws.drop (8 * k)).getD 0 0 = ws[8 * k]'(by omega) := by simp [List.getD_eq_getElem?_getD, List.getElem?_drop, List.getElem?_eq_getElem (show 8 * k < ws.length by omega)]
      have hm : ws.length / 8 - k = (ws.length / 8 - (k + 1)) + 1 := by omega
      have hzl : zeroLines (ws.length / 8 - k) k (ws.drop (8 * k)) = (if ws[8 * k]'(by omega) = 0 then [(k : Int)] else []) ++ zeroLines (ws.length / 8 - (k + 1)) (k + 1 : Nat) (ws.drop (8 * (k + 1))) := by
        rw [hm, zeroLines, hgd, List.drop_drop, show 8 * (k + 1) = 8 * k + 8 by omega]
        simp
      have HZL := hide hzl
      rw [show o + 8 * k = o + k * 8 by omega] at q0
      have k8 : (k : Int) < (ws.length : Int) / 8 := by omega
      have lo : (0 : Int) ≤ (k : Int) * 8 := by omega
      have hi1 : (k : Int) * 8 < ws.length := by omega
      clear hcell hgd hm hzl
      generalize ws[8 * k]'(by omega) = x at *
      by_cases hx0 : x = 0
      · have HI2 : Hid (imgFree ws = (F ++ [(k : Int)]) ++ zeroLines (ws.length / 8 - (k + 1)) (k + 1 : Nat) (ws.drop (8 * (k + 1)))) := by
          rw [Hid, unhide HI, unhide HZL, if_pos hx0, List.append_assoc]
        subst hx0
        have OA := hide (own_below (unhide HO) ((Below.refl _ wr).alloc (Nat.le_refl _) (.cells #[.int .i64 (k : Int)] 2)))
        have XA := hide ((unhide HX).alloc (.cells #[.int .i64 (k : Int)] 2))
        have RA : Hid (RowAt (wr.alloc (.cells #[.int .i64 (k : Int)] 2)) (some ⟨wr.heap.size, 0, none⟩) (nums [(k : Int)])) := rowAt_fresh wr [.int .i64 (k : Int)] 2
        clear HI HZL
        go_wp2_with (at_builtin; refine wpList_append_xs _ rfl _ _ 24 rfl base 2 i0 _ 1 8 Try.underlying24 hii hz0 hz1 hz2 rfl (by decide) (by decide) (.slice fa F.length fc) F.length (nums F) rfl (unhide OA) _ 1 1 (nums [(k : Int)]) rfl rfl (unhide RA) (by simp [nums, Value.oneCell']) (by omega) (by simp; omega) ?_; intro v' w3 hown hgrow hloc; obtain ⟨a3, c3, e3, -⟩ := rowAt_own hown; subst e3; have HOW := hide hown; have HGR := hide hgrow; clear hown hgrow hloc)
        have O3 : Hid (w3.ownsRow base 2 1 (.slice a3 (F ++ [(k : Int)]).length c3) (F ++ [(k : Int)]).length (nums (F ++ [(k : Int)]))) := by
          rw [Hid, List.length_append, nums_append]; exact unhide HOW
        have X3 := hide ((unhide XA).grown (unhide HGR) (fun e => by have := ((unhide OA).lt _ e).1; omega))
        have B3 : Hid (Below w.heap.size w w3) := ((unhide HB).alloc hwz _).grown (unhide HGR) (by simp; omega) (fun q hq => by have := ((unhide OA).lt q hq).1; omega)
        have z3 : base ≤ w3.heap.size := by have := (unhide HGR).size; simp at this; omega
        have hll2 : (F ++ [(k : Int)]).length = F.length + 1 := by simp
        rw [← hll2]
        generalize hLL : F ++ [(k : Int)] = F2 at *
        have hF2 : F2.length ≤ k + 1 := by omega
        clear hLL hll2 HOW HGR OA XA RA HO HB HX q0
        go_wp2_with fail
        go_roundw
        case rel => exact ⟨k + 1, a3, c3, F2, by omega, by omega, by go_num, rfl, hF2, O3, HI2, B3, X3, z3⟩
        case measure => simp [intOf]; omega
      · have HI2 : Hid (imgFree ws = F ++ zeroLines (ws.length / 8 - (k + 1)) (k + 1 : Nat) (ws.drop (8 * (k + 1)))) := by
          rw [Hid, unhide HI, unhide HZL, if_neg hx0]; rfl
        have hxb : (x == 0) = false := by simpa using hx0
        clear hx0 HI HZL
        go_wp2_with fail
        go_roundw
        case rel => exact ⟨k + 1, fa, fc, F, by omega, by omega, by go_num, rfl, by omega, HO, HI2, HB, HX, hbw⟩
        case measure => simp [intOf]; omega
    · have HI2 : Hid (imgFree ws = F) := by
        rw [Hid, unhide HI, show ws.length / 8 - k = 0 by omega]; simp [zeroLines]
      have k8 : ¬ (k : Int) < (ws.length : Int) / 8 := by omega
      have y0 := (unhide HX).cell 0
      have y1 := (unhide HX).cell 1
      have f0 := (unhide HX).frozen 0
      have f1 := (unhide HX).frozen 1
      simp at y0 y1
      clear HI
      go_wp2_with fail
      clear y0 y1 f0 f1
      generalize hU : (wr.setCell _ _).setCell _ _ = U
      obtain ⟨XU, OU⟩ := store2' (unhide HX) hU
      have t0 := (unhide XU).cell 0
      have t1 := (unhide XU).cell 1
      simp at t0 t1
      refine bodyPost_ret (v := .agg #[.int .i64 0, .slice fa F.length fc]) (by simp [results, Try.results78, go_sem, t0, t1]) rfl ⟨?_, ?_⟩
      · rw [unhide HCD, unhide HI2]
        exact ⟨fa, fc, rfl, own_base ((unhide OU).own (unhide HO) (fun q hq e => by have := ((unhide HO).lt q hq).1; omega)) (fun q hq => by have := ((unhide HO).lt q hq).1; omega)⟩
      · exact (unhide OU).below (unhide HB) (Nat.le_refl _) (fun q hq e => by omega)
end Go.Proofs.Ytdijmijipgnlgaa
