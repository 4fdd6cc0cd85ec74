/-
  Several texts in one: NextWalk, FreeWalk.
-/
import Derived.Test.YtiopofemelninaaGreatLiveAllD
/-
  What spec.NextUid and impl.NextUid answer.
-/
namespace Go.Proofs.YtiopofemelninaaGreat
open Go.RowKit
set_option linter.unusedVariables false

def uidMax (V : List Ver) : Int := V.foldl (fun m v => max m v.2.u) 0
theorem uidMax_take {V : List Ver} {k : Nat} (hk : k < V.length) : uidMax (V.take (k + 1)) = max (uidMax (V.take k)) V[k].2.u := by
  rw [List.take_succ_eq_append_getElem hk, uidMax, List.foldl_append]; rfl
theorem fold_ge (V : List Ver) : ∀ m : Int, 0 ≤ m → 0 ≤ V.foldl (fun m v => max m v.2.u) m := by
  induction V with
  | nil => intro m h; exact h
  | cons v V ih => intro m h; exact ih _ (by show 0 ≤ max m v.2.u; omega)
theorem uidMax_nonneg (V : List Ver) : 0 ≤ uidMax V := fold_ge V 0 (Int.le_refl _)
def nextCode (ws : List Int) : Int := if imgCode ws = 0 then (if 999 ≤ uidMax (imgVers ws) then 7 else 0) else imgCode ws
def nextVal (ws : List Int) : Int := if imgCode ws = 0 then (if 999 ≤ uidMax (imgVers ws) then 0 else uidMax (imgVers ws) + 1) else 0

theorem l1MaxN_any (a b : Int) (w : World) :
    Calls Tryz.prog 42 #[.int .i64 a, .int .i64 b] w fun e w' => e = .returned (.int .i64 (max a b)) ∧ w' = w := by
  by_cases h : b < a
  · have e : max a b = a := by omega
    rw [e]
    go_enter Tryz.func42, Tryz.ntmps42
    go_wp2
    go_ret
    exact ⟨rfl, rfl⟩
  · have e : max a b = b := by omega
    rw [e]
    go_enter Tryz.func42, Tryz.ntmps42
    go_wp2
    go_ret
    exact ⟨rfl, rfl⟩
set_option maxRecDepth 20000 in
set_option maxHeartbeats 2000000 in
theorem specNextUid_any (a : Option Addr) (c : Nat) (ws : List Int) (w : World) (h : IntsAt w a ws) (hcl : ws.length ≤ c) (hcm : c ≤ 10000000) (hn : ws.length ≤ 1048576) :
    Calls Tryz.prog 15 #[.slice a ws.length c] w fun e w' => e = .returned (.agg #[.int .i64 (nextCode ws), .int .i64 (nextVal ws)]) ∧ Below w.heap.size w w' := by
  have H := hide h
  clear h
  go_enter Tryz.func15, Tryz.ntmps15
  go_wp2_with fail
  obtain ⟨W, hW, z1, hb, hx⟩ := boxes1 w [.int .i64 0, .int .i64 0] 37
  rw [← hW]
  clear hW
  refine (specVersionsIn_any a c ws _ ((unhide H).below (unhide hb)) hcl hcm hn).mono ?_
  rintro e w2 ⟨⟨v, L, rfl, hV, hM⟩, hb2⟩
  have z2 := hb2.size
  obtain ⟨va, vc, ev⟩ := hV.form
  subst ev
  have hlen : (imgVers ws).length = L.length := by rw [← hM]; simp
  have hL3 : L.length ≤ 1048576 := by
    rw [← hlen]
    unfold imgVers
    split
    · have := (imgRun_len (clockVal ws) (ws.length / 8 - 1) 1 (ws.drop 8)).1; omega
    · simp
  have hNC : nextCode ws = if imgCode ws = 0 then (if 999 ≤ uidMax (imgVers ws) then 7 else 0) else imgCode ws := rfl
  have hNV : nextVal ws = if imgCode ws = 0 then (if 999 ≤ uidMax (imgVers ws) then 0 else uidMax (imgVers ws) + 1) else 0 := rfl
  generalize hcd : imgCode ws = cd at *
  generalize hVV : imgVers ws = V at *
  have HNC := hide hNC
  have HNV := hide hNV
  clear hcd hVV hNC hNV
  obtain ⟨W2, hW2, z3, hb3, hx3⟩ := boxes1 w2 [.int .i64 cd, .slice va L.length vc] 31
  have B3 := hide (below_step (below_step (unhide hb) hb2 (by omega)) (unhide hb3) (by omega))
  have X3 := hide (((unhide hx).below hb2).below (unhide hb3))
  have V3 := hide (hV.below (unhide hb3))
  have v0 := (unhide hx3).cell 0
  have v1 := (unhide hx3).cell 1
  have y0 := (unhide X3).cell 0
  have y1 := (unhide X3).cell 1
  have f0 := (unhide X3).frozen 0
  have f1 := (unhide X3).frozen 1
  simp at v0 v1 y0 y1
  have HM := hide hM
  have HLEN := hide hlen
  clear hb2 hb3 hx3 hb hx hV hM hlen
  by_cases hc : cd = 0
  case neg =>
    have hcb : (cd != 0) = true := by simpa using hc
    have HC : Hid (nextCode ws = cd ∧ nextVal ws = 0) := ⟨by rw [unhide HNC, if_neg hc], by rw [unhide HNV, if_neg hc]⟩
    clear hc
    rw [hW2] at v0 y0 y1 f0 f1
    go_wp2_with fail
    rw [← hW2]
    clear y0 y1 f0 f1 v0 v1 hW2
    generalize hU : (W2.setCell _ _).setCell _ _ = U
    obtain ⟨XU, OU⟩ := store2' (unhide X3) hU
    have t0 := (unhide XU).cell 0
    have t1 := (unhide XU).cell 1
    simp at t0 t1
    refine bodyPost_ret (v := .agg #[.int .i64 cd, .int .i64 0]) (by simp [results, Tryz.results15, go_sem, t0, t1]) rfl ⟨?_, ?_⟩
    · rw [(unhide HC).1, (unhide HC).2]
    · exact (unhide OU).below (unhide B3) (Nat.le_refl _) (fun q hq e => by omega)
  subst hc
  have hz : w2.heap.size < W2.heap.size := by omega
  rw [hW2] at v0
  go_wp2_with fail
  rw [← hW2]
  clear hW2 v0
  go_loop [4, 5] (fun m i => ∃ k : Nat, k ≤ L.length ∧ i = .int .i64 k ∧ m = .int .i64 (uidMax (V.take k))) (fun _ i => L.length - (intOf i).toNat)
  case atStart => exact ⟨0, Nat.zero_le _, rfl, rfl⟩
  case round =>
    obtain ⟨k, hk, rfl, rfl⟩ := hrel
    by_cases hlt : k < L.length
    · obtain ⟨g, c2, eg, hg, hcell⟩ := (unhide V3).at hlt
      injection eg with eg1 eg2 eg3
      subst eg1 eg3
      have hu : (L[k].cells)[2]? = some (.int .i64 L[k].x.b.u) := rfl
      have hu2 := hcell 2 _ hu
      have hu3 : W2.cell? ⟨g, k * 11 + 1 + 1, none⟩ = some (.int .i64 L[k].x.b.u) := hu2
      have hvk : V[k]'(by rw [unhide HLEN]; exact hlt) = L[k].ver := by
        have := unhide HM
        subst this
        simp
      have hmx := uidMax_take (V := V) (k := k) (by rw [unhide HLEN]; exact hlt)
      rw [hvk] at hmx
      have HMX : Hid (uidMax (V.take (k + 1)) = max (uidMax (V.take k)) L[k].x.b.u) := hmx
      have k0 : (0 : Int) ≤ (k : Int) := by omega
      have k1 : (k : Int) < L.length := by omega
      clear hcell hu hvk hmx eg2
      generalize L[k].x.b.u = u at *
      go_wp2_with fail
      refine (l1MaxN_any _ _ _).mono ?_
      rintro e w4 ⟨rfl, rfl⟩
      rw [← unhide HMX]
      go_wp2_with fail
      go_round
      case rel => exact ⟨k + 1, by omega, by go_num, rfl⟩
      case measure => simp [intOf]; omega
    · have hke : k = L.length := by omega
      have HT : Hid (uidMax (V.take k) = uidMax V) := by rw [Hid, List.take_of_length_le (by rw [unhide HLEN]; omega)]
      have hnn := uidMax_nonneg V
      have k1 : ¬ (k : Int) < L.length := by omega
      clear hke
      rw [unhide HT]
      generalize hM0 : uidMax V = M at *
      clear hM0
      by_cases h9 : (999 : Int) ≤ M
      · have HC : Hid (nextCode ws = 7 ∧ nextVal ws = 0) := ⟨by rw [unhide HNC]; simp [h9], by rw [unhide HNV]; simp [h9]⟩
        go_wp2_with fail
        clear y0 y1 f0 f1 v1
        generalize hU : (W2.setCell _ _).setCell _ _ = U
        obtain ⟨XU, OU⟩ := store2' (unhide X3) hU
        have t0 := (unhide XU).cell 0
        have t1 := (unhide XU).cell 1
        simp at t0 t1
        refine bodyPost_ret (v := .agg #[.int .i64 7, .int .i64 0]) (by simp [results, Tryz.results15, go_sem, t0, t1]) rfl ⟨?_, ?_⟩
        · rw [(unhide HC).1, (unhide HC).2]
        · exact (unhide OU).below (unhide B3) (Nat.le_refl _) (fun q hq e => by omega)
      · have HC : Hid (nextCode ws = 0 ∧ nextVal ws = M + 1) := ⟨by rw [unhide HNC]; simp [h9], by rw [unhide HNV]; simp [h9]⟩
        go_wp2_with fail
        clear y0 y1 f0 f1 v1
        generalize hU : (W2.setCell _ _).setCell _ _ = U
        obtain ⟨XU, OU⟩ := store2' (unhide X3) hU
        have t0 := (unhide XU).cell 0
        have t1 := (unhide XU).cell 1
        simp at t0 t1
        refine bodyPost_ret (v := .agg #[.int .i64 0, .int .i64 (M + 1)]) (by simp [results, Tryz.results15, go_sem, t0, t1]) rfl ⟨?_, ?_⟩
        · rw [(unhide HC).1, (unhide HC).2]
        · exact (unhide OU).below (unhide B3) (Nat.le_refl _) (fun q hq e => by omega)
set_option maxRecDepth 20000 in
set_option maxHeartbeats 2000000 in
theorem implNextUid_any (a : Option Addr) (c : Nat) (ws : List Int) (w : World) (h : IntsAt w a ws) (hcl : ws.length ≤ c) (hcm : c ≤ 10000000) (hn : ws.length ≤ 1048576) :
    Calls Tryz.prog 14 #[.slice a ws.length c] w fun e w' => e = .returned (.agg #[.int .i64 (nextCode ws), .int .i64 (nextVal ws)]) ∧ Below w.heap.size w w' := by
  have H := hide h
  clear h
  go_enter Tryz.func14, Tryz.ntmps14
  go_wp2_with fail
  obtain ⟨W, hW, z1, hb, hx⟩ := boxes1 w [.int .i64 0, .int .i64 0] 37
  rw [← hW]
  clear hW
  refine (implImageOf_any a c ws _ ((unhide H).below (unhide hb)) hcl hcm hn).mono ?_
  rintro e w2 ⟨⟨v, fv, L, rfl, hV, hF, hsep, hM⟩, hb2⟩
  have z2 := hb2.size
  obtain ⟨va, vc, ev⟩ := hV.form
  obtain ⟨fa, fc, ef, -⟩ := rowAt_own hF
  subst ev ef
  generalize hFF : imgFree ws = FF at *
  generalize hCC : imgClk ws = CC at *
  clear hFF hCC hF hsep
  have hlen : (imgVers ws).length = L.length := by rw [← hM]; simp
  have hL3 : L.length ≤ 1048576 := by
    rw [← hlen]
    unfold imgVers
    split
    · have := (imgRun_len (clockVal ws) (ws.length / 8 - 1) 1 (ws.drop 8)).1; omega
    · simp
  have hNC : nextCode ws = if imgCode ws = 0 then (if 999 ≤ uidMax (imgVers ws) then 7 else 0) else imgCode ws := rfl
  have hNV : nextVal ws = if imgCode ws = 0 then (if 999 ≤ uidMax (imgVers ws) then 0 else uidMax (imgVers ws) + 1) else 0 := rfl
  generalize hcd : imgCode ws = cd at *
  generalize hVV : imgVers ws = V at *
  have HNC := hide hNC
  have HNV := hide hNV
  clear hcd hVV hNC hNV
  obtain ⟨W2, hW2, z3, hb3, hx3⟩ := boxes1 w2 [.int .i64 CC, .slice va L.length vc, .slice fa FF.length fc] 61
  have B3 := hide (below_step (below_step (unhide hb) hb2 (by omega)) (unhide hb3) (by omega))
  have X3 := hide (((unhide hx).below hb2).below (unhide hb3))
  have V3 := hide (hV.below (unhide hb3))
  have v0 := (unhide hx3).cell 0
  have v1 := (unhide hx3).cell 1
  have y0 := (unhide X3).cell 0
  have y1 := (unhide X3).cell 1
  have f0 := (unhide X3).frozen 0
  have f1 := (unhide X3).frozen 1
  simp at v0 v1 y0 y1
  have HM := hide hM
  have HLEN := hide hlen
  clear hb2 hb3 hx3 hb hx hV hM hlen
  by_cases hc : cd = 0
  case neg =>
    have hcb : (cd != 0) = true := by simpa using hc
    have HC : Hid (nextCode ws = cd ∧ nextVal ws = 0) := ⟨by rw [unhide HNC, if_neg hc], by rw [unhide HNV, if_neg hc]⟩
    clear hc
    rw [hW2] at v0 y0 y1 f0 f1
    go_wp2_with fail
    rw [← hW2]
    clear y0 y1 f0 f1 v0 v1 hW2
    generalize hU : (W2.setCell _ _).setCell _ _ = U
    obtain ⟨XU, OU⟩ := store2' (unhide X3) hU
    have t0 := (unhide XU).cell 0
    have t1 := (unhide XU).cell 1
    simp at t0 t1
    refine bodyPost_ret (v := .agg #[.int .i64 cd, .int .i64 0]) (by simp [results, Tryz.results14, go_sem, t0, t1]) rfl ⟨?_, ?_⟩
    · rw [(unhide HC).1, (unhide HC).2]
    · exact (unhide OU).below (unhide B3) (Nat.le_refl _) (fun q hq e => by omega)
  subst hc
  have hz : w2.heap.size < W2.heap.size := by omega
  rw [hW2] at v1
  go_wp2_with fail
  rw [← hW2] at v1 ⊢
  clear hW2 v0 v1 hz y0 y1 f0 f1
  have HL3 := hide hL3
  go_loopw [5, 20] (fun m i wr => ∃ k : Nat, k ≤ L.length ∧ i = .int .i64 k ∧ m = .int .i64 (uidMax (V.take k)) ∧ Hid (Below W2.heap.size W2 wr)) (fun _ i _ => L.length - (intOf i).toNat)
  case atStart => exact ⟨0, Nat.zero_le _, rfl, rfl, Below.refl _ _⟩
  case round =>
    obtain ⟨k, hk, rfl, rfl, HBW⟩ := hrel
    have hwz := (unhide HBW).size
    by_cases hlt : k < L.length
    · obtain ⟨g, c2, eg, hg, hcell⟩ := ((unhide V3).below (unhide HBW)).at hlt
      injection eg with eg1 eg2 eg3
      subst eg1 eg3
      have hvk : V[k]'(by rw [unhide HLEN]; exact hlt) = L[k].ver := by
        have := unhide HM
        subst this
        simp
      have hmx := uidMax_take (V := V) (k := k) (by rw [unhide HLEN]; exact hlt)
      rw [hvk] at hmx
      have HMX : Hid (uidMax (V.take (k + 1)) = max (uidMax (V.take k)) L[k].x.b.u) := hmx
      have k0 : (0 : Int) ≤ (k : Int) := by omega
      have k1 : (k : Int) < L.length := by omega
      have HCE := hide hcell
      clear hvk hmx eg2 hcell
      generalize hX : L[k] = X at *
      obtain ⟨ln, ⟨B, na, nc⟩⟩ := X
      clear hX
      have hle : max (uidMax (V.take k)) B.u = if uidMax (V.take k) ≤ B.u then B.u else uidMax (V.take k) := by rw [Int.max_def]
      go_wp2_with (first | (refine wpList_load_mid rfl 46 (.tmp 22) rfl g (k * 11) rfl [.int .i64 ln, .int .i64 B.k, .int .i64 B.u, .int .i64 B.i, .int .i64 B.e, .int .i64 B.nu, .bool B.nd, .int .i64 B.np, .string B.nn, .int .i64 B.ns, .slice na B.nl.length nc] _ (fun j v hv => unhide HCE j v hv) Tryz.underlying46 rfl (by kernel_rfl) ?_))
      have e0 : (if uidMax (V.take k) < B.u then B.u else uidMax (V.take k)) = uidMax (V.take (k + 1)) := by
        rw [unhide HMX]
        show _ = max _ B.u
        split <;> omega
      rw [e0]
      exact ⟨⟨k + 1, by omega, by go_num, rfl, (unhide HBW).alloc hwz _⟩, by simp [intOf]; omega⟩
    · have hke : k = L.length := by omega
      have HT : Hid (uidMax (V.take k) = uidMax V) := by rw [Hid, List.take_of_length_le (by rw [unhide HLEN]; omega)]
      have hnn := uidMax_nonneg V
      have k1 : ¬ (k : Int) < L.length := by omega
      have y0 := ((unhide X3).below (unhide HBW)).cell 0
      have y1 := ((unhide X3).below (unhide HBW)).cell 1
      have f0 := ((unhide X3).below (unhide HBW)).frozen 0
      have f1 := ((unhide X3).below (unhide HBW)).frozen 1
      simp at y0 y1
      clear hke
      rw [unhide HT]
      generalize hM0 : uidMax V = M at *
      clear hM0
      by_cases h9 : (999 : Int) ≤ M
      · have HC : Hid (nextCode ws = 7 ∧ nextVal ws = 0) := ⟨by rw [unhide HNC]; simp [h9], by rw [unhide HNV]; simp [h9]⟩
        go_wp2_with fail
        clear y0 y1 f0 f1
        generalize hU : (wr.setCell _ _).setCell _ _ = U
        obtain ⟨XU, OU⟩ := store2' ((unhide X3).below (unhide HBW)) hU
        have t0 := (unhide XU).cell 0
        have t1 := (unhide XU).cell 1
        simp at t0 t1
        refine bodyPost_ret (v := .agg #[.int .i64 7, .int .i64 0]) (by simp [results, Tryz.results14, go_sem, t0, t1]) rfl ⟨?_, ?_⟩
        · rw [(unhide HC).1, (unhide HC).2]
        · exact (unhide OU).below (below_step (unhide B3) (unhide HBW) (by omega)) (Nat.le_refl _) (fun q hq e => by omega)
      · have HC : Hid (nextCode ws = 0 ∧ nextVal ws = M + 1) := ⟨by rw [unhide HNC]; simp [h9], by rw [unhide HNV]; simp [h9]⟩
        go_wp2_with fail
        clear y0 y1 f0 f1
        generalize hU : (wr.setCell _ _).setCell _ _ = U
        obtain ⟨XU, OU⟩ := store2' ((unhide X3).below (unhide HBW)) hU
        have t0 := (unhide XU).cell 0
        have t1 := (unhide XU).cell 1
        simp at t0 t1
        refine bodyPost_ret (v := .agg #[.int .i64 0, .int .i64 (M + 1)]) (by simp [results, Tryz.results14, go_sem, t0, t1]) rfl ⟨?_, ?_⟩
        · rw [(unhide HC).1, (unhide HC).2]
        · exact (unhide OU).below (below_step (unhide B3) (unhide HBW) (by omega)) (Nat.le_refl _) (fun q hq e => by omega)
end Go.Proofs.YtiopofemelninaaGreat
/-
  What spec.FreeIn and impl.FreeIn answer.
-/
namespace Go.Proofs.YtiopofemelninaaGreat
open Go.RowKit
set_option linter.unusedVariables false

theorem img_bad (ws : List Int) : imgCode ws ≠ 0 → imgVers ws = [] ∧ imgFree ws = [] := by
  intro h
  unfold imgCode at h
  unfold imgVers imgFree
  split
  · rename_i hc; rw [if_pos hc] at h; exact imgRun_bad h
  · exact ⟨rfl, rfl⟩
/-- The lines from k on whose first word is 0. -/
def zeroLines : Nat → Int → List Int → List Int
  | 0, _, _ => []
  | n + 1, line, ws => (if ws.getD 0 0 = 0 then [line] else []) ++ zeroLines n (line + 1) (ws.drop 8)
theorem whOk_zero {x : Int} (h : whOk x = true) (hk : x % 4 = 0) : x = 0 := by
  simp only [whOk, Bool.and_eq_true] at h
  have hb := inB_true.1 h.1
  have h2 := h.2
  rw [hk] at h2
  simp [headOk] at h2
  omega
theorem take_zero (ws : List Int) : (ws.take 8).getD 0 0 = ws.getD 0 0 := by
  cases ws <;> simp
theorem free_zero (clock : Int) : ∀ (n : Nat) (line : Int) (ws : List Int), (imgRun clock n line ws).1 = 0 → (imgRun clock n line ws).2.2 = zeroLines n line ws
  | 0, _, _, _ => rfl
  | n + 1, line, ws, h => by
    have ih := free_zero clock n (line + 1) (ws.drop 8)
    unfold imgRun at h ⊢
    unfold zeroLines
    split at h
    · rename_i h0
      rw [if_pos h0]
      split at h
      · rename_i h1
        rw [if_pos h1]
        simp only
        rw [ih h1]
        congr 1
        unfold stepFree
        rw [take_zero]
        unfold stepCode at h0
        rw [take_zero] at h0
        split at h0
        · rename_i hok
          by_cases hz : ws.getD 0 0 = 0
          · rw [if_pos hz, if_pos (by rw [hz]; rfl)]
          · rw [if_neg hz, if_neg (fun e => hz (whOk_zero hok e))]
        · cases h0
      · rename_i h1; exact absurd h h1
    · rename_i h0; exact absurd h h0
def IRes (e : Ending) (base : Nat) (w' : World) (code : Int) (l : List Int) : Prop := ∃ a c, e = .returned (.agg #[.int .i64 code, .slice a l.length c]) ∧ w'.ownsRow base 2 1 (.slice a l.length c) l.length (nums l)
theorem imgFree_len (ws : List Int) (hn : ws.length ≤ 1048576) : (imgFree ws).length ≤ 1048576 := by
  unfold imgFree
  split
  · have := (imgRun_len (clockVal ws) (ws.length / 8 - 1) 1 (ws.drop 8)).2; omega
  · simp
set_option maxRecDepth 20000 in
set_option maxHeartbeats 2000000 in
theorem implFreeIn_any (a : Option Addr) (c : Nat) (ws : List Int) (w : World) (h : IntsAt w a ws) (hcl : ws.length ≤ c) (hcm : c ≤ 10000000) (hn : ws.length ≤ 1048576) :
    Calls Tryz.prog 9 #[.slice a ws.length c] w fun e w' => IRes e w.heap.size w' (imgCode ws) (imgFree ws) ∧ Below w.heap.size w w' := by
  have H := hide h
  clear h
  have HBAD := hide (img_bad ws)
  go_enter Tryz.func9, Tryz.ntmps9
  go_wp2_with fail
  obtain ⟨W, hW, z1, hb, hx⟩ := boxes1 w [.int .i64 0, .slice none 0 0] 34
  rw [← hW]
  clear hW
  refine (implImageOf_any a c ws _ ((unhide H).below (unhide hb)) hcl hcm hn).mono ?_
  rintro e w2 ⟨⟨vv, fv, L, rfl, hV, hF, hsep, hM⟩, hb2⟩
  have z2 := hb2.size
  obtain ⟨va, vc, ev⟩ := hV.form
  obtain ⟨fa, fc, ef, -⟩ := rowAt_own hF
  subst ev ef
  generalize hFF : imgFree ws = FF at *
  generalize hCC : imgClk ws = CC at *
  obtain ⟨W2, hW2, z3, hb3, hx3⟩ := boxes1 w2 [.int .i64 CC, .slice va L.length vc, .slice fa FF.length fc] 61
  have B3 := hide (below_step (below_step (unhide hb) hb2 (by omega)) (unhide hb3) (by omega))
  have X3 := hide (((unhide hx).below hb2).below (unhide hb3))
  have F3 := hide (own_below hF (unhide hb3))
  have v1 := (unhide hx3).cell 2
  have y0 := (unhide X3).cell 0
  have y1 := (unhide X3).cell 1
  have f0 := (unhide X3).frozen 0
  have f1 := (unhide X3).frozen 1
  simp at v1 y0 y1
  have HFF := hide hFF
  rw [hW2] at v1 y0 y1 f0 f1
  clear hb2 hb3 hx3 hb hx hF hV hsep hFF hCC hM
  by_cases hc : imgCode ws = 0
  case neg =>
    have hcb : (imgCode ws != 0) = true := by simpa using hc
    have HFN : Hid (FF = []) := (unhide HBAD hc).2
    generalize hcd : imgCode ws = cd at *
    have HCD := hide hcd
    clear hc hcd
    go_wp2_with fail
    rw [← hW2]
    clear y0 y1 f0 f1 v1 hW2
    generalize hU : (W2.setCell _ _).setCell _ _ = U
    obtain ⟨XU, OU⟩ := store2' (unhide X3) hU
    have t0 := (unhide XU).cell 0
    have t1 := (unhide XU).cell 1
    simp at t0 t1
    refine bodyPost_ret (v := .agg #[.int .i64 cd, .slice none 0 0]) (by simp [results, Tryz.results9, go_sem, t0, t1]) rfl ⟨?_, ?_⟩
    · rw [unhide HCD, unhide HFF, unhide HFN]
      exact ⟨none, 0, rfl, World.ownsRow_nil _ _ _ _⟩
    · exact (unhide OU).below (unhide B3) (Nat.le_refl _) (fun q hq e => by omega)
  have HCD := hide hc
  rw [hc]
  clear hc
  go_wp2_with fail
  rw [← hW2]
  clear y0 y1 f0 f1 v1 hW2
  generalize hU : (W2.setCell _ _).setCell _ _ = U
  obtain ⟨XU, OU⟩ := store2' (unhide X3) hU
  have t0 := (unhide XU).cell 0
  have t1 := (unhide XU).cell 1
  simp at t0 t1
  refine bodyPost_ret (v := .agg #[.int .i64 0, .slice fa FF.length fc]) (by simp [results, Tryz.results9, go_sem, t0, t1]) rfl ⟨?_, ?_⟩
  · rw [unhide HCD, unhide HFF]
    exact ⟨fa, fc, rfl, own_base ((unhide OU).own (unhide F3) (fun q hq e => by have := ((unhide F3).lt q hq).1; omega)) (fun q hq => by have := ((unhide F3).lt q hq).1; omega)⟩
  · exact (unhide OU).below (unhide B3) (Nat.le_refl _) (fun q hq e => by omega)
end Go.Proofs.YtiopofemelninaaGreat
