/-
  What spec.NextUid and impl.NextUid answer.
-/
import Derived.Test.YtdijmijipgnlgaaVersInWalk
namespace Go.Proofs.Ytdijmijipgnlgaa
open Go.RowKit
set_option linter.unusedVariables false

def uidMax (V : List Ver) : Int := V.foldl (fun m v => max m v.2.u) 0
theorem uidMax_take {V : List Ver} {k : Nat} (hk : k < V.length) : uidMax (V.take (k + 1)) = max (uidMax (V.take k)) V[k].2.u := by
  rw [List.take_succ_eq_append_getElem hk, uidMax, List.foldl_append]; rfl
theorem fold_ge (V : List Ver) : ∀ m : Int, 0 ≤ m → 0 ≤ V.foldl (fun m v => max m v.2.u) m := by
  induction V with
  | nil => intro m h; exact h
  | cons v V ih => intro m h; exact ih _ (by show 0 ≤ max m v.2.u; omega)
theorem uidMax_nonneg (V : List Ver) : 0 ≤ uidMax V := fold_ge V 0 (Int.le_refl _)
def nextCode (ws : List Int) : Int := if imgCode ws = 0 then (if 999 ≤ uidMax (imgVers ws) then 7 else 0) else imgCode ws
def nextVal (ws : List Int) : Int := if imgCode ws = 0 then (if 999 ≤ uidMax (imgVers ws) then 0 else uidMax (imgVers ws) + 1) else 0

theorem l1Max_any (a b : Int) (w : World) :
    Calls Try.prog 158 #[.int .i64 a, .int .i64 b] w fun e w' => e = .returned (.int .i64 (max a b)) ∧ w' = w := by
  by_cases h : b < a
  · have e : max a b = a := by omega
    rw [e]
    go_enter Try.func158, Try.ntmps158
    go_wp2
    go_ret
    exact ⟨rfl, rfl⟩
  · have e : max a b = b := by omega
    rw [e]
    go_enter Try.func158, Try.ntmps158
    go_wp2
    go_ret
    exact ⟨rfl, rfl⟩
set_option maxRecDepth 20000 in
set_option maxHeartbeats 2000000 in
theorem specNextUid_any (a : Option Addr) (c : Nat) (ws : List Int) (w : World) (h : IntsAt w a ws) (hcl : ws.length ≤ c) (hcm : c ≤ 10000000) (hn : ws.length ≤ 1048576) :
    Calls Try.prog 83 #[.slice a ws.length c] w fun e w' => e = .returned (.agg #[.int .i64 (nextCode ws), .int .i64 (nextVal ws)]) ∧ Below w.heap.size w w' := by
  have H := hide h
  clear h
  go_enter Try.func83, Try.ntmps83
  go_wp2_with fail
  obtain ⟨W, hW, z1, hb, hx⟩ := boxes1 w [.int .i64 0, .int .i64 0] 36
  rw [← hW]
  clear hW
  refine (specVersionsIn_any a c ws _ ((unhide H).below (unhide hb)) hcl hcm hn).mono ?_
  rintro e w2 ⟨⟨v, L, rfl, hV, hM⟩, hb2⟩
  have z2 := hb2.size
  obtain ⟨va, vc, ev⟩ := hV.form
  subst ev
  have hlen : (imgVers ws).length = L.length := by rw [← hM]; simp
  have hL3 : L.length ≤ 1048576 := by
    rw [← hlen]
    unfold imgVers
    split
    · have := (imgRun_len (clockVal ws) (ws.length / 8 - 1) 1 (ws.drop 8)).1; omega
    · simp
  have hNC : nextCode ws = if imgCode ws = 0 then (if 999 ≤ uidMax (imgVers ws) then 7 else 0) else imgCode ws := rfl
  have hNV : nextVal ws = if imgCode ws = 0 then (if 999 ≤ uidMax (imgVers ws) then 0 else uidMax (imgVers ws) + 1) else 0 := rfl
  generalize hcd : imgCode ws = cd at *
  generalize hVV : imgVers ws = V at *
  have HNC := hide hNC
  have HNV := hide hNV
  clear hcd hVV hNC hNV
  obtain ⟨W2, hW2, z3, hb3, hx3⟩ := boxes1 w2 [.int .i64 cd, .slice va L.length vc] 99
  have B3 := hide (below_step (below_step (unhide hb) hb2 (by omega)) (unhide hb3) (by omega))
  have X3 := hide (((unhide hx).below hb2).below (unhide hb3))
  have V3 := hide (hV.below (unhide hb3))
  have v0 := (unhide hx3).cell 0
  have v1 := (unhide hx3).cell 1
  have y0 := (unhide X3).cell 0
  have y1 := (unhide X3).cell 1
  have f0 := (unhide X3).frozen 0
  have f1 := (unhide X3).frozen 1
  simp at v0 v1 y0 y1
  have HM := hide hM
  have HLEN := hide hlen
  clear hb2 hb3 hx3 hb hx hV hM hlen
  by_cases hc : cd = 0
  case neg =>
    have hcb : (cd != 0) = true := by simpa using hc
    have HC : Hid (nextCode ws = cd ∧ nextVal ws = 0) := ⟨by rw [unhide HNC, if_neg hc], by rw [unhide HNV, if_neg hc]⟩
    clear hc
    rw [hW2] at v0 y0 y1 f0 f1
    go_wp2_with fail
    rw [← hW2]
    clear y0 y1 f0 f1 v0 v1 hW2
    generalize hU : (W2.setCell _ _).setCell _ _ = U
    obtain ⟨XU, OU⟩ := store2' (unhide X3) hU
    have t0 := (unhide XU).cell 0
    have t1 := (unhide XU).cell 1
    simp at t0 t1
    refine bodyPost_ret (v := .agg #[.int .i64 cd, .int .i64 0]) (by simp [results, Try.results83, go_sem, t0, t1]) rfl ⟨?_, ?_⟩
    · rw [(unhide HC).1, (unhide HC).2]
    · exact (unhide OU).below (unhide B3) (Nat.le_refl _) (fun q hq e => by omega)
  subst hc
  have hz : w2.heap.size < W2.heap.size := by omega
  rw [hW2] at v0
  go_wp2_with fail
  rw [← hW2]
  clear hW2 v0
  go_loop [4, 5] (fun m i => ∃ k : Nat, k ≤ L.length ∧ i = .int .i64 k ∧ m = .int .i64 (uidMax (V.take k))) (fun _ i => L.length - (intOf i).toNat)
  case atStart => exact ⟨0, Nat.zero_le _, rfl, rfl⟩
  case round =>
    obtain ⟨k, hk, rfl, rfl⟩ := hrel
    by_cases hlt : k < L.length
    · obtain ⟨g, c2, eg, hg, hcell⟩ := (unhide V3).at hlt
      injection eg with eg1 eg2 eg3
      subst eg1 eg3
      have hu : (L[k].cells)[2]? = some (.int .i64 L[k].x.b.u) := rfl
      have hu2 := hcell 2 _ hu
      have hu3 : W2.cell? ⟨g, k * 11 + 1 + 1, none⟩ = some (.int .i64 L[k].x.b.u) := hu2
      have hvk : V[k]'(by rw [unhide HLEN]; exact hlt) = L[k].ver := by
        have := unhide HM
        subst this
        simp
      have hmx := uidMax_take (V := V) (k := k) (by rw [unhide HLEN]; exact hlt)
      rw [hvk] at hmx
      have HMX : Hid (uidMax (V.take (k + 1)) = max (uidMax (V.take k)) L[k].x.b.u) := hmx
      have k0 : (0 : Int) ≤ (k : Int) := by omega
      have k1 : (k : Int) < L.length := by omega
      clear hcell hu hvk hmx eg2
      generalize L[k].x.b.u = u at *
      go_wp2_with fail
      refine (l1Max_any _ _ _).mono ?_
      rintro e w4 ⟨rfl, rfl⟩
      rw [← unhide HMX]
      go_wp2_with fail
      go_round
      case rel => exact ⟨k + 1, by omega, by go_num, rfl⟩
      case measure => simp [intOf]; omega
    · have hke : k = L.length := by omega
      have HT : Hid (uidMax (V.take k) = uidMax V) := by rw [Hid, List.take_of_length_le (by rw [unhide HLEN]; omega)]
      have hnn := uidMax_nonneg V
      have k1 : ¬ (k : Int) < L.length := by omega
      clear hke
      rw [unhide HT]
      generalize hM0 : uidMax V = M at *
      clear hM0
      by_cases h9 : (999 : Int) ≤ M
      · have HC : Hid (nextCode ws = 7 ∧ nextVal ws = 0) := ⟨by rw [unhide HNC]; simp [h9], by rw [unhide HNV]; simp [h9]⟩
        go_wp2_with fail
        clear y0 y1 f0 f1 v1
        generalize hU : (W2.setCell _ _).setCell _ _ = U
        obtain ⟨XU, OU⟩ := store2' (unhide X3) hU
        have t0 := (unhide XU).cell 0
        have t1 := (unhide XU).cell 1
        simp at t0 t1
        refine bodyPost_ret (v := .agg #[.int .i64 7, .int .i64 0]) (by simp [results, Try.results83, go_sem, t0, t1]) rfl ⟨?_, ?_⟩
        · rw [(unhide HC).1, (unhide HC).2]
        · exact (unhide OU).below (unhide B3) (Nat.le_refl _) (fun q hq e => by omega)
      · have HC : Hid (nextCode ws = 0 ∧ nextVal ws = M + 1) := ⟨by rw [unhide HNC]; simp [h9], by rw [unhide HNV]; simp [h9]⟩
        go_wp2_with fail
        clear y0 y1 f0 f1 v1
        generalize hU : (W2.setCell _ _).setCell _ _ = U
        obtain ⟨XU, OU⟩ := store2' (unhide X3) hU
        have t0 := (unhide XU).cell 0
        have t1 := (unhide XU).cell 1
        simp at t0 t1
        refine bodyPost_ret (v := .agg #[.int .i64 0, .int .i64 (M + 1)]) (by simp [results, Try.results83, go_sem, t0, t1]) rfl ⟨?_, ?_⟩
        · rw [(unhide HC).1, (unhide HC).2]
        · exact (unhide OU).below (unhide B3) (Nat.le_refl _) (fun q hq e => by omega)
set_option maxRecDepth 20000 in
set_option maxHeartbeats 2000000 in
theorem implNextUid_any (a : Option Addr) (c : Nat) (ws : List Int) (w : World) (h : IntsAt w a ws) (hcl : ws.length ≤ c) (hcm : c ≤ 10000000) (hn : ws.length ≤ 1048576) :
    Calls Try.prog 84 #[.slice a ws.length c] w fun e w' => e = .returned (.agg #[.int .i64 (nextCode ws), .int .i64 (nextVal ws)]) ∧ Below w.heap.size w w' := by
  have H := hide h
  clear h
  go_enter Try.func84, Try.ntmps84
  go_wp2_with fail
  obtain ⟨W, hW, z1, hb, hx⟩ := boxes1 w [.int .i64 0, .int .i64 0] 36
  rw [← hW]
  clear hW
  refine (implImageOf_any a c ws _ ((unhide H).below (unhide hb)) hcl hcm hn).mono ?_
  rintro e w2 ⟨⟨v, fv, L, rfl, hV, hF, hsep, hM⟩, hb2⟩
  have z2 := hb2.size
  obtain ⟨va, vc, ev⟩ := hV.form
  obtain ⟨fa, fc, ef, -⟩ := rowAt_own hF
  subst ev ef
  generalize hFF : imgFree ws = FF at *
  generalize hCC : imgClk ws = CC at *
  clear hFF hCC hF hsep
  have hlen : (imgVers ws).length = L.length := by rw [← hM]; simp
  have hL3 : L.length ≤ 1048576 := by
    rw [← hlen]
    unfold imgVers
    split
    · have := (imgRun_len (clockVal ws) (ws.length / 8 - 1) 1 (ws.drop 8)).1; omega
    · simp
  have hNC : nextCode ws = if imgCode ws = 0 then (if 999 ≤ uidMax (imgVers ws) then 7 else 0) else imgCode ws := rfl
  have hNV : nextVal ws = if imgCode ws = 0 then (if 999 ≤ uidMax (imgVers ws) then 0 else uidMax (imgVers ws) + 1) else 0 := rfl
  generalize hcd : imgCode ws = cd at *
  generalize hVV : imgVers ws = V at *
  have HNC := hide hNC
  have HNV := hide hNV
  clear hcd hVV hNC hNV
  obtain ⟨W2, hW2, z3, hb3, hx3⟩ := boxes1 w2 [.int .i64 CC, .slice va L.length vc, .slice fa FF.length fc] 180
  have B3 := hide (below_step (below_step (unhide hb) hb2 (by omega)) (unhide hb3) (by omega))
  have X3 := hide (((unhide hx).below hb2).below (unhide hb3))
  have V3 := hide (hV.below (unhide hb3))
  have v0 := (unhide hx3).cell 0
  have v1 := (unhide hx3).cell 1
  have y0 := (unhide X3).cell 0
  have y1 := (unhide X3).cell 1
  have f0 := (unhide X3).frozen 0
  have f1 := (unhide X3).frozen 1
  simp at v0 v1 y0 y1
  have HM := hide hM
  have HLEN := hide hlen
  clear hb2 hb3 hx3 hb hx hV hM hlen
  by_cases hc : cd = 0
  case neg =>
    have hcb : (cd != 0) = true := by simpa using hc
    have HC : Hid (nextCode ws = cd ∧ nextVal ws = 0) := ⟨by rw [unhide HNC, if_neg hc], by rw [unhide HNV, if_neg hc]⟩
    clear hc
    rw [hW2] at v0 y0 y1 f0 f1
    go_wp2_with fail
    rw [← hW2]
    clear y0 y1 f0 f1 v0 v1 hW2
    generalize hU : (W2.setCell _ _).setCell _ _ = U
    obtain ⟨XU, OU⟩ := store2' (unhide X3) hU
    have t0 := (unhide XU).cell 0
    have t1 := (unhide XU).cell 1
    simp at t0 t1
    refine bodyPost_ret (v := .agg #[.int .i64 cd, .int .i64 0]) (by simp [results, Try.results84, go_sem, t0, t1]) rfl ⟨?_, ?_⟩
    · rw [(unhide HC).1, (unhide HC).2]
    · exact (unhide OU).below (unhide B3) (Nat.le_refl _) (fun q hq e => by omega)
  subst hc
  have hz : w2.heap.size < W2.heap.size := by omega
  rw [hW2] at v1
  go_wp2_with fail
  rw [← hW2] at v1 ⊢
  clear hW2 v0 v1 hz y0 y1 f0 f1
  have HL3 := hide hL3
  go_loopw [5, 20] (fun m i wr => ∃ k : Nat, k ≤ L.length ∧ i = .int .i64 k ∧ m = .int .i64 (uidMax (V.take k)) ∧ Hid (Below W2.heap.size W2 wr)) (fun _ i _ => L.length - (intOf i).toNat)
  case atStart => exact ⟨0, Nat.zero_le _, rfl, rfl, Below.refl _ _⟩
  case round =>
    obtain ⟨k, hk, rfl, rfl, HBW⟩ := hrel
    have hwz := (unhide HBW).size
    by_cases hlt : k < L.length
    · obtain ⟨g, c2, eg, hg, hcell⟩ := ((unhide V3).below (unhide HBW)).at hlt
      injection eg with eg1 eg2 eg3
      subst eg1 eg3
      have hvk : V[k]'(by rw [unhide HLEN]; exact hlt) = L[k].ver := by
        have := unhide HM
        subst this
        simp
      have hmx := uidMax_take (V := V) (k := k) (by rw [unhide HLEN]; exact hlt)
      rw [hvk] at hmx
      have HMX : Hid (uidMax (V.take (k + 1)) = max (uidMax (V.take k)) L[k].x.b.u) := hmx
      have k0 : (0 : Int) ≤ (k : Int) := by omega
      have k1 : (k : Int) < L.length := by omega
      have HCE := hide hcell
      clear hvk hmx eg2 hcell
      generalize hX : L[k] = X at *
      obtain ⟨ln, ⟨B, na, nc⟩⟩ := X
      clear hX
      have hle : max (uidMax (V.take k)) B.u = if uidMax (V.take k) ≤ B.u then B.u else uidMax (V.take k) := by rw [Int.max_def]
      go_wp2_with (first | (refine wpList_load_mid rfl 186 (.tmp 22) rfl g (k * 11) rfl [.int .i64 ln, .int .i64 B.k, .int .i64 B.u, .int .i64 B.i, .int .i64 B.e, .int .i64 B.nu, .bool B.nd, .int .i64 B.np, .string B.nn, .int .i64 B.ns, .slice na B.nl.length nc] _ (fun j v hv => unhide HCE j v hv) Try.underlying186 rfl (by kernel_rfl) ?_))
      have e0 : (if uidMax (V.take k) < B.u then B.u else uidMax (V.take k)) = uidMax (V.take (k + 1)) := by
        rw [unhide HMX]
        show _ = max _ B.u
        split <;> omega
      rw [e0]
      exact ⟨⟨k + 1, by omega, by go_num, rfl, (unhide HBW).alloc hwz _⟩, by simp [intOf]; omega⟩
    · have hke : k = L.length := by omega
      have HT : Hid (uidMax (V.take k) = uidMax V) := by rw [Hid, List.take_of_length_le (by rw [unhide HLEN]; omega)]
      have hnn := uidMax_nonneg V
      have k1 : ¬ (k : Int) < L.length := by omega
      have y0 := ((unhide X3).below (unhide HBW)).cell 0
      have y1 := ((unhide X3).below (unhide HBW)).cell 1
      have f0 := ((unhide X3).below (unhide HBW)).frozen 0
      have f1 := ((unhide X3).below (unhide HBW)).frozen 1
      simp at y0 y1
      clear hke
      rw [unhide HT]
      generalize hM0 : uidMax V = M at *
      clear hM0
      by_cases h9 : (999 : Int) ≤ M
      · have HC : Hid (nextCode ws = 7 ∧ nextVal ws = 0) := ⟨by rw [unhide HNC]; simp [h9], by rw [unhide HNV]; simp [h9]⟩
        go_wp2_with fail
        clear y0 y1 f0 f1
        generalize hU : (wr.setCell _ _).setCell _ _ = U
        obtain ⟨XU, OU⟩ := store2' ((unhide X3).below (unhide HBW)) hU
        have t0 := (unhide XU).cell 0
        have t1 := (unhide XU).cell 1
        simp at t0 t1
        refine bodyPost_ret (v := .agg #[.int .i64 7, .int .i64 0]) (by simp [results, Try.results84, go_sem, t0, t1]) rfl ⟨?_, ?_⟩
        · rw [(unhide HC).1, (unhide HC).2]
        · exact (unhide OU).below (below_step (unhide B3) (unhide HBW) (by omega)) (Nat.le_refl _) (fun q hq e => by omega)
      · have HC : Hid (nextCode ws = 0 ∧ nextVal ws = M + 1) := ⟨by rw [unhide HNC]; simp [h9], by rw [unhide HNV]; simp [h9]⟩
        go_wp2_with fail
        clear y0 y1 f0 f1
        generalize hU : (wr.setCell _ _).setCell _ _ = U
        obtain ⟨XU, OU⟩ := store2' ((unhide X3).below (unhide HBW)) hU
        have t0 := (unhide XU).cell 0
        have t1 := (unhide XU).cell 1
        simp at t0 t1
        refine bodyPost_ret (v := .agg #[.int .i64 0, .int .i64 (M + 1)]) (by simp [results, Try.results84, go_sem, t0, t1]) rfl ⟨?_, ?_⟩
        · rw [(unhide HC).1, (unhide HC).2]
        · exact (unhide OU).below (below_step (unhide B3) (unhide HBW) (by omega)) (Nat.le_refl _) (fun q hq e => by omega)
end Go.Proofs.Ytdijmijipgnlgaa
