/-
  What spec.l4Versions answers.
-/
import Derived.Test.YtdijmijipgnlgaaImgWalk
import Derived.Test.YtdijmijipgnlgaaSReadBlock
namespace Go.Proofs.Ytdijmijipgnlgaa
open Go.RowKit
set_option linter.unusedVariables false

theorem ints_step {w : World} {b o : Nat} {ws : List Int} (h : IntsAt w (some ⟨b, o, none⟩) ws) {k : Nat} (hk : 8 * k + 8 ≤ ws.length) : IntsAt w (some ⟨b, o + k * 8, none⟩) ((ws.drop (8 * k)).take 8) ∧ ((ws.drop (8 * k)).take 8).length = 8 := by
  have := ints_line h hk
  rwa [Nat.mul_comm 8 k] at this ⊢
def VersIs (e : Ending) (base : Nat) (w' : World) (code : Int) (V : List Ver) : Prop := ∃ v L, e = .returned (.tuple #[v, .int .i64 code]) ∧ VOwn w' base v L ∧ L.map VerA.ver = V
set_option maxRecDepth 20000 in
set_option maxHeartbeats 4000000 in
theorem l4Versions_any (a : Option Addr) (c : Nat) (ws : List Int) (clock : Int) (w : World) (h : IntsAt w a ws) (hcl : ws.length ≤ c) (hcm : c ≤ 10000000) (hsz : sizeOk ws.length = true) (hal : allWords ws = true) (hv1 : 2 ≤ clock) (hv2 : clock ≤ 9999) :
    Calls Try.prog 152 #[.slice a ws.length c, .int .i64 clock] w fun e w' => VersIs e w.heap.size w' (imgRun clock (ws.length / 8 - 1) 1 (ws.drop 8)).1 (imgRun clock (ws.length / 8 - 1) 1 (ws.drop 8)).2.1 ∧ Below w.heap.size w w' := by
  obtain ⟨i0, hii, hz0, hz1, hz2⟩ := info_parts infoVer
  have hsz' : 16 ≤ ws.length ∧ ws.length % 8 = 0 ∧ ws.length ≤ 328 := by simp [sizeOk] at hsz; omega
  obtain ⟨b, o, rfl, hb, -⟩ := h.at (k := 0) (by omega)
  obtain ⟨T, hT⟩ : ∃ T, T = imgRun clock (ws.length / 8 - 1) 1 (ws.drop 8) := ⟨_, rfl⟩
  have HS0 : Hid (Sofar T (imgRun clock (ws.length / 8 - 1) 1 (ws.drop (8 * 1))) [] []) := by rw [hT]; exact sofar_start _ imgRun_bad
  rw [← hT]
  have H := hide h
  have HAL := hide hal
  clear hT h hsz hal
  have htd : (ws.length : Int).tdiv 8 = (ws.length : Int) / 8 := Int.tdiv_eq_ediv_of_nonneg (by omega)
  have hdv : -9223372036854775808 ≤ (ws.length : Int) / 8 ∧ (ws.length : Int) / 8 ≤ 9223372036854775807 := by omega
  have HV0 : Hid (VOwn (w.alloc (.cells #[] 186)) w.heap.size (.slice (some ⟨w.heap.size, 0, none⟩) 0 0) []) := ⟨World.ownsRow_made (base := w.heap.size) (e := 186) (size := 11) w #[] 0 (Nat.le_refl _) (by unfold maxLen; omega) rfl, fun x hx => (by cases hx), fun x hx => (by cases hx), List.Pairwise.nil⟩
  go_enter Try.func152, Try.ntmps152
  go_wp2_with fail
  go_loopw [6, 7] (fun v i wr => ∃ (k : Nat) (va : Option Addr) (vc : Nat) (L : List VerA) (F : List Int), 1 ≤ k ∧ 8 * k ≤ ws.length ∧ i = .int .i64 k ∧ v = .slice va L.length vc ∧ L.length ≤ k ∧ Hid (VOwn wr w.heap.size (.slice va L.length vc) L) ∧ Hid (Sofar T (imgRun clock (ws.length / 8 - k) k (ws.drop (8 * k))) (L.map VerA.ver) F) ∧ Hid (Below w.heap.size w wr)) (fun _ i _ => ws.length - (intOf i).toNat)
  case atStart => exact ⟨1, _, 0, [], [], Nat.le_refl _, by omega, rfl, rfl, by simp, HV0, HS0, (Below.refl _ _).alloc (Nat.le_refl _) _⟩
  case round =>
    obtain ⟨k, va, vc, L, F, hk1, hk2, rfl, rfl, hL, HV, HS, HB⟩ := hrel
    clear HV0 HS0
    have hwz := (unhide HB).size
    by_cases hlt : 8 * k + 8 ≤ ws.length
    · obtain ⟨hil, hll⟩ := ints_step ((unhide H).below (unhide HB)) hlt
      obtain ⟨x0, x1, x2, x3, x4, x5, x6, x7, hx⟩ := eight hll
      have hxm : ∀ x ∈ (ws.drop (8 * k)).take 8, 0 ≤ x ∧ x ≤ 999999999999999 := fun x hx => by
        have h1 := unhide HAL
        rw [allWords, List.all_eq_true] at h1
        exact inB_true.1 (h1 x (List.mem_of_mem_drop (List.mem_of_mem_take hx)))
      have hm : ws.length / 8 - k = (ws.length / 8 - k - 1) + 1 := by omega
      have HS1 : Hid (Sofar T (imgRun clock ((ws.length / 8 - k - 1) + 1) k (ws.drop (8 * k))) (L.map VerA.ver) F) := by rw [← hm]; exact HS
      have hs8 : ws.length / 8 - (k + 1) = ws.length / 8 - k - 1 := by omega
      have stepS : ∀ L2 : List VerA, stepCode clock [x0, x1, x2, x3, x4, x5, x6, x7] = 0 → L2.map VerA.ver = L.map VerA.ver ++ stepVers clock k [x0, x1, x2, x3, x4, x5, x6, x7] → Sofar T (imgRun clock (ws.length / 8 - (k + 1)) (k + 1 : Nat) (ws.drop (8 * (k + 1)))) (L2.map VerA.ver) (F ++ stepFree k [x0, x1, x2, x3, x4, x5, x6, x7]) := fun L2 h0 h1 => by
        have h2 := sofar_step (unhide HS1) (by rw [hx]; exact h0)
        rw [hx, ← h1, List.drop_drop] at h2
        rw [hs8, show 8 * (k + 1) = 8 * k + 8 by omega]
        simpa using h2
      have stopS : stepCode clock [x0, x1, x2, x3, x4, x5, x6, x7] ≠ 0 → T.1 = stepCode clock [x0, x1, x2, x3, x4, x5, x6, x7] ∧ T.2.1 = [] ∧ T.2.2 = [] := fun h0 => by
        have h2 := sofar_stop (unhide HS1) (by rw [hx]; exact h0)
        rwa [hx] at h2
      rw [hx] at hil hxm
      have hb3 : -9223372036854775808 ≤ x3 ∧ x3 ≤ 9223372036854775807 := by have := hxm x3 (by simp); omega
      have HIL := hide hil
      obtain ⟨b', o', eb, hbw, q0, -⟩ := at8 hil
      cases eb
      have SS := hide stepS
      have SP := hide stopS
      have k8 : (k : Int) < (ws.length : Int) / 8 := by omega
      have lo : (0 : Int) ≤ (k : Int) * 8 := by omega
      have hi1 : ((k : Int) + 1) * 8 ≤ c := by omega
      have hk8 : k * 8 < c := by omega
      have hx0 := hxm x0 (by simp)
      clear hil stepS stopS hxm HS HS1 hm hs8 hx hll
      cases hok : whOk x0
      · have hs : stepCode clock [x0, x1, x2, x3, x4, x5, x6, x7] = 1 := by simp [stepCode, hok]
        have HR := hide (unhide SP (by rw [hs]; decide))
        rw [hs] at HR
        have HOK := hide hok
        clear hs hok SS SP
        go_wp2_with fail
        refine (l1Head_none x0 _ (unhide HOK)).mono ?_
        rintro r w1 ⟨⟨hk', hu', hi', he', rfl⟩, hb1⟩
        have B1 := hide (below_step (unhide HB) hb1 hwz)
        clear hb1 q0
        go_wp2_with fail
        refine bodyPost_ret (v := .tuple #[.slice none 0 0, .int .i64 1]) (by simp [results, Try.results152, go_sem]) rfl ⟨?_, (unhide B1).alloc (unhide B1).size _⟩
        rw [(unhide HR).1, (unhide HR).2.1]
        exact ⟨_, [], rfl, vown_nil _ _, rfl⟩
      have HOK := hide hok
      by_cases hk0 : x0 % 4 = 0
      · have hs : stepCode clock [x0, x1, x2, x3, x4, x5, x6, x7] = 0 := by simp [stepCode, hok, hk0]
        have hve : stepVers clock k [x0, x1, x2, x3, x4, x5, x6, x7] = [] := by simp [stepVers, hk0]
        have HSN := hide (unhide SS L hs (by rw [hve, List.append_nil]))
        generalize hFF : F ++ stepFree (k : Int) [x0, x1, x2, x3, x4, x5, x6, x7] = F2 at *
        have hkb : (x0 % 4 == 0) = true := by simpa using hk0
        clear hFF hs hve SS SP hk0 hok
        go_wp2_with fail
        refine (l1Head_any x0 _ (unhide HOK)).mono ?_
        rintro r w1 ⟨rfl, hb1⟩
        have B1 := hide ((below_step (unhide HB) hb1 hwz).alloc (by have := hb1.size; omega) (.cells #[.int .i64 (x0 % 4), .int .i64 (x0 / 16 % 1000), .int .i64 (x0 / 4 % 4), .int .i64 (x0 / 16000)] 56))
        have V1 := hide (((unhide HV).below hb1).below ((Below.refl _ w1).alloc (Nat.le_refl _) (.cells #[.int .i64 (x0 % 4), .int .i64 (x0 / 16 % 1000), .int .i64 (x0 / 4 % 4), .int .i64 (x0 / 16000)] 56)))
        clear hb1 q0
        go_wp2_with fail
        go_roundw
        case rel => exact ⟨k + 1, va, vc, L, F2, by omega, by omega, by go_num, rfl, by omega, V1, HSN, B1⟩
        case measure => simp [intOf]; omega
      have hkb : (x0 % 4 == 0) = false := by simpa using hk0
      have hvl : L.length ≤ 1000 := by omega
      cases hsu : sureB clock x0
      · have hs : stepCode clock [x0, x1, x2, x3, x4, x5, x6, x7] = 0 := by simp [stepCode, hok, hk0, hsu]
        have hve : stepVers clock k [x0, x1, x2, x3, x4, x5, x6, x7] = [((k : Int), headBlk x0)] := by simp [stepVers, hk0, hsu]
        have HSN := hide (unhide SS (L ++ [⟨k, headBlk x0, none, 0⟩]) hs (by rw [hve, List.map_append]; rfl))
        generalize hFF : F ++ stepFree (k : Int) [x0, x1, x2, x3, x4, x5, x6, x7] = F2 at *
        have hdec : ¬ x0 / 16000 ≤ clock - 2 := by simpa [sureB] using hsu
        clear hFF hs hve SS SP hsu hk0 hok
        go_wp2_with fail
        refine (l1Head_any x0 _ (unhide HOK)).mono ?_
        rintro r w1 ⟨rfl, hb1⟩
        have z1 := hb1.size
        obtain ⟨W, hW, z2, hb2, hx2, hy2⟩ := boxes2 w1 [.int .i64 (x0 % 4), .int .i64 (x0 / 16 % 1000), .int .i64 (x0 / 4 % 4), .int .i64 (x0 / 16000)] [.int .i64 (x0 % 4), .int .i64 (x0 / 16 % 1000), .int .i64 (x0 / 4 % 4), .int .i64 (x0 / 16000), .int .i64 0, .bool false, .int .i64 0, .string ⟨#[]⟩, .int .i64 0, .slice none 0 0] 56 60
        have BW := hide (below_step (below_step (unhide HB) hb1 hwz) (unhide hb2) (by omega))
        have VW := hide (((unhide HV).below hb1).below (unhide hb2))
        have VA := hide ((unhide VW).below ((Below.refl _ W).alloc (Nat.le_refl _) (.cells #[.int .i64 (k : Int), .int .i64 (x0 % 4), .int .i64 (x0 / 16 % 1000), .int .i64 (x0 / 4 % 4), .int .i64 (x0 / 16000), .int .i64 0, .bool false, .int .i64 0, .string ⟨#[]⟩, .int .i64 0, .slice none 0 0] 186)))
        have RA : Hid (RowAt (W.alloc (.cells #[.int .i64 (k : Int), .int .i64 (x0 % 4), .int .i64 (x0 / 16 % 1000), .int .i64 (x0 / 4 % 4), .int .i64 (x0 / 16000), .int .i64 0, .bool false, .int .i64 0, .string ⟨#[]⟩, .int .i64 0, .slice none 0 0] 186)) (some ⟨w1.heap.size + 1 + 1, 0, none⟩) (VerA.cells ⟨k, headBlk x0, none, 0⟩)) := by
          have := rowAt_fresh W [.int .i64 (k : Int), .int .i64 (x0 % 4), .int .i64 (x0 / 16 % 1000), .int .i64 (x0 / 4 % 4), .int .i64 (x0 / 16000), .int .i64 0, .bool false, .int .i64 0, .string ⟨#[]⟩, .int .i64 0, .slice none 0 0] 186
          rw [show W.heap.size = w1.heap.size + 1 + 1 by rw [hW, World.size_alloc, World.size_alloc]] at this
          exact this
        have YW := hy2
        rw [hW] at VA RA YW
        clear hb1 q0 hb2 hx2 hy2
        go_wp2_with (first
          | (refine wpList_load_part rfl 60 (.tmp 11) rfl (w1.heap.size + 1) 0 rfl 60 _ [.int .i64 (x0 % 4), .int .i64 (x0 / 16 % 1000), .int .i64 (x0 / 4 % 4), .int .i64 (x0 / 16000), .int .i64 0, .bool false, .int .i64 0, .string ⟨#[]⟩, .int .i64 0, .slice none 0 0] ((unhide YW)) rfl _ Try.underlying60 rfl (by kernel_rfl) ?_)
          | (at_builtin; refine wpList_append_xs _ rfl _ _ 97 rfl w.heap.size 186 i0 _ 11 112 Try.underlying97 hii hz0 hz1 hz2 rfl (by decide) (by decide) (.slice va L.length vc) L.length (vflat L) rfl (unhide VA).row _ 1 1 (VerA.cells ⟨k, headBlk x0, none, 0⟩) rfl rfl (unhide RA) (VerA.one _) (by omega) (by simp; omega) ?_; intro v' w6 hown hgrow hloc; obtain ⟨a3, c3, e3, -⟩ := rowAt_own hown; subst e3; have HOW := hide hown; have HGR := hide hgrow; have HLO := hide hloc; clear hown hgrow hloc))
        have VN := hide ((unhide VA).next (x := ⟨k, headBlk x0, none, 0⟩) (World.ownsRow_nil _ _ _ _) (fun q hq => by simp [VerA.nv, headBlk, Value.ownBlock] at hq) (unhide HGR) (unhide HOW) (unhide HLO))
        have BN : Hid (Below w.heap.size w w6) := by
          have h1 := unhide BW
          rw [hW] at h1
          exact (h1.alloc (by simp; omega) _).grown (unhide HGR) (by simp; omega) (fun q hq => ((unhide VA).row.lt q hq).1)
        clear HGR HOW HLO VA RA YW VW BW hW
        have hll2 : (L ++ [(⟨k, headBlk x0, none, 0⟩ : VerA)]).length = L.length + 1 := by simp
        rw [← hll2] at VN ⊢
        generalize hLL : L ++ [(⟨k, headBlk x0, none, 0⟩ : VerA)] = L2 at *
        have hL2 : L2.length ≤ k + 1 := by omega
        clear hLL hll2
        go_wp2_with fail
        go_roundw
        case rel => exact ⟨k + 1, a3, c3, L2, F2, by omega, by omega, by go_num, rfl, hL2, VN, HSN, BN⟩
        case measure => simp [intOf]; omega
      have hdec : x0 / 16000 ≤ clock - 2 := by simpa [sureB] using hsu
      have hse : stepCode clock [x0, x1, x2, x3, x4, x5, x6, x7] = readCode [x0, x1, x2, x3, x4, x5, x6, x7] := by simp [stepCode, hok, hk0, hsu]
      have hve : stepVers clock k [x0, x1, x2, x3, x4, x5, x6, x7] = [((k : Int), readBlk [x0, x1, x2, x3, x4, x5, x6, x7])] := by simp [stepVers, hk0, hsu]
      rw [hse] at SS SP
      rw [hve] at SS
      generalize hFF : F ++ stepFree (k : Int) [x0, x1, x2, x3, x4, x5, x6, x7] = F2 at *
      clear hFF hse hve hsu hk0 hok
      go_wp2_with fail
      refine (l1Head_any x0 _ (unhide HOK)).mono ?_
      rintro r w1 ⟨rfl, hb1⟩
      have z1 := hb1.size
      obtain ⟨W, hW, z2, hb2, hx2, hy2⟩ := boxes2 w1 [.int .i64 (x0 % 4), .int .i64 (x0 / 16 % 1000), .int .i64 (x0 / 4 % 4), .int .i64 (x0 / 16000)] [.int .i64 (x0 % 4), .int .i64 (x0 / 16 % 1000), .int .i64 (x0 / 4 % 4), .int .i64 (x0 / 16000), .int .i64 0, .bool false, .int .i64 0, .string ⟨#[]⟩, .int .i64 0, .slice none 0 0] 56 60
      have BW := hide (below_step (below_step (unhide HB) hb1 hwz) (unhide hb2) (by omega))
      have VW := hide (((unhide HV).below hb1).below (unhide hb2))
      have IW := hide (((unhide HIL).below hb1).below (unhide hb2))
      clear hb1 q0 hb2
      go_wp2_with fail
      rw [← hW]
      clear hW
      rw [show (k + 1) * 8 - k * 8 = 8 by omega]
      refine (l3Read_any _ _ (by omega) x0 x1 x2 x3 x4 x5 x6 x7 hb3 _ (unhide IW)).mono ?_
      rintro r w3 ⟨⟨nv, rfl, hO⟩, hb4⟩
      generalize hB : readBlk [x0, x1, x2, x3, x4, x5, x6, x7] = B at *
      generalize hcd : readCode [x0, x1, x2, x3, x4, x5, x6, x7] = cd at *
      clear hB hcd
      obtain ⟨na, nc, en, -⟩ := intsAt_own hO
      subst en
      have z4 := hb4.size
      have NL := hide (fun q hq => hO.lt q hq)
      have B4 := hide (below_step (unhide BW) hb4 (by omega))
      have V4 := hide ((unhide VW).below hb4)
      have Y4 := hide ((unhide hy2).below hb4)
      have N4 := hide hO
      have VL := hide (fun q hq => ((unhide HV).lt (q := q) hq).2)
      clear hb4 BW VW hO IW HIL hx2 hy2
      by_cases hcz : cd = 0
      case neg =>
        have hczb : (cd != 0) = true := by simpa using hcz
        have HR := hide (unhide SP hcz)
        clear hcz SS SP
        go_wp2_with fail
        refine bodyPost_ret (v := .tuple #[.slice none 0 0, .int .i64 cd]) (by simp [results, Try.results152, go_sem]) rfl ⟨?_, (unhide B4).alloc (unhide B4).size _⟩
        rw [(unhide HR).1, (unhide HR).2.1]
        exact ⟨_, [], rfl, vown_nil _ _, rfl⟩
      subst hcz
      have HSN := hide (unhide SS (L ++ [⟨k, B, na, nc⟩]) rfl (by rw [List.map_append]; rfl))
      clear SS SP
      obtain ⟨W5, hW5, z5, hb5, hx5⟩ := boxes1 w3 [.int .i64 B.k, .int .i64 B.u, .int .i64 B.i, .int .i64 B.e, .int .i64 B.nu, .bool B.nd, .int .i64 B.np, .string B.nn, .int .i64 B.ns, .slice na B.nl.length nc] 60
      have B5 := hide (below_step (unhide B4) (unhide hb5) (by omega))
      have V5 := hide ((unhide V4).below (unhide hb5))
      have Y5 := hide ((unhide Y4).below (unhide hb5))
      have N5 := hide (own_below (unhide N4) (unhide hb5))
      clear B4 V4 Y4 N4 hb5
      have X5 := hx5
      rw [hW5] at Y5 X5
      go_wp2_with (first
        | (refine wpList_load_part rfl 60 (.tmp 12) rfl w3.heap.size 0 rfl 60 _ [.int .i64 B.k, .int .i64 B.u, .int .i64 B.i, .int .i64 B.e, .int .i64 B.nu, .bool B.nd, .int .i64 B.np, .string B.nn, .int .i64 B.ns, .slice na B.nl.length nc] (unhide X5) rfl _ Try.underlying60 rfl (by kernel_rfl) ?_)
        | (refine wpList_store_part rfl 60 (.tmp 11) (.tmp 56) rfl (w1.heap.size + 1) 0 #[.int .i64 B.k, .int .i64 B.u, .int .i64 B.i, .int .i64 B.e, .int .i64 B.nu, .bool B.nd, .int .i64 B.np, .string B.nn, .int .i64 B.ns, .slice na B.nl.length nc] rfl rfl 60 _ (unhide Y5) (by kernel_rfl) (by simp) (by simp [Value.oneCell']) ?_; intro w5 hX6 hO6; have z6 := (unhide hO6).size; have zz6 : w.heap.size ≤ w5.heap.size := (by rw [← hW5] at z6; omega); have hO6' : Hid (Out (fun q => q = w1.heap.size + 1) W5 w5) := (by rw [hW5]; exact hO6); have XX : Hid (Box w5 (w1.heap.size + 1) [.int .i64 B.k, .int .i64 B.u, .int .i64 B.i, .int .i64 B.e, .int .i64 B.nu, .bool B.nd, .int .i64 B.np, .string B.nn, .int .i64 B.ns, .slice na B.nl.length nc] 60) := hX6; have V6 := hide ((unhide V5).out (unhide hO6') (fun q hq e => by have := unhide VL q hq; omega)); have N6 := hide ((unhide hO6').own (unhide N5) (fun q hq e => by have := (unhide NL q hq).1; omega)); have B6 := hide ((unhide hO6').below (unhide B5) (Nat.le_refl _) (fun q hq e => by omega)); have VA := hide ((unhide V6).below ((Below.refl _ w5).alloc (Nat.le_refl _) (.cells #[.int .i64 (k : Int), .int .i64 B.k, .int .i64 B.u, .int .i64 B.i, .int .i64 B.e, .int .i64 B.nu, .bool B.nd, .int .i64 B.np, .string B.nn, .int .i64 B.ns, .slice na B.nl.length nc] 186))); have RA : Hid (RowAt (w5.alloc (.cells #[.int .i64 (k : Int), .int .i64 B.k, .int .i64 B.u, .int .i64 B.i, .int .i64 B.e, .int .i64 B.nu, .bool B.nd, .int .i64 B.np, .string B.nn, .int .i64 B.ns, .slice na B.nl.length nc] 186)) (some ⟨w5.heap.size, 0, none⟩) (VerA.cells ⟨k, B, na, nc⟩)) := rowAt_fresh w5 [.int .i64 (k : Int), .int .i64 B.k, .int .i64 B.u, .int .i64 B.i, .int .i64 B.e, .int .i64 B.nu, .bool B.nd, .int .i64 B.np, .string B.nn, .int .i64 B.ns, .slice na B.nl.length nc] 186; clear hX6 hO6)
        | (refine wpList_load_part rfl 60 (.tmp 11) rfl (w1.heap.size + 1) 0 rfl 60 _ [.int .i64 B.k, .int .i64 B.u, .int .i64 B.i, .int .i64 B.e, .int .i64 B.nu, .bool B.nd, .int .i64 B.np, .string B.nn, .int .i64 B.ns, .slice na B.nl.length nc] (unhide XX) rfl _ Try.underlying60 rfl (by kernel_rfl) ?_)
        | (at_builtin; refine wpList_append_xs _ rfl _ _ 97 rfl w.heap.size 186 i0 _ 11 112 Try.underlying97 hii hz0 hz1 hz2 rfl (by decide) (by decide) (.slice va L.length vc) L.length (vflat L) rfl (unhide VA).row _ 1 1 (VerA.cells ⟨k, B, na, nc⟩) rfl rfl (unhide RA) (VerA.one _) (by omega) (by simp; omega) ?_; intro v' w6 hown hgrow hloc; obtain ⟨a3, c3, e3, -⟩ := rowAt_own hown; subst e3; have HOW := hide hown; have HGR := hide hgrow; have HLO := hide hloc; clear hown hgrow hloc))
      have VN := hide ((unhide VA).next (x := ⟨k, B, na, nc⟩) (own_base (own_below (unhide N6) ((Below.refl _ w5).alloc (Nat.le_refl _) _)) (fun q hq => by have := (unhide NL q hq).1; omega)) (fun q hq e => by have h1 := (unhide NL q hq).1; have h2 := unhide VL q e; omega) (unhide HGR) (unhide HOW) (unhide HLO))
      have BN : Hid (Below w.heap.size w w6) := ((unhide B6).alloc zz6 _).grown (unhide HGR) (by simp; omega) (fun q hq => ((unhide VA).row.lt q hq).1)
      clear HGR HOW HLO VA RA XX V6 N6 B6 hW5
      have hll2 : (L ++ [(⟨k, B, na, nc⟩ : VerA)]).length = L.length + 1 := by simp
      rw [← hll2] at VN ⊢
      generalize hLL : L ++ [(⟨k, B, na, nc⟩ : VerA)] = L2 at *
      have hL2 : L2.length ≤ k + 1 := by omega
      clear hLL hll2
      go_wp2_with fail
      go_roundw
      case rel => exact ⟨k + 1, a3, c3, L2, F2, by omega, by omega, by go_num, rfl, hL2, VN, HSN, BN⟩
      case measure => simp [intOf]; omega
    · have hke : ws.length / 8 - k = 0 := by omega
      have hR := sofar_end (show Sofar T (imgRun clock 0 k (ws.drop (8 * k))) (L.map VerA.ver) F by have := unhide HS; rw [hke] at this; exact this)
      have HR := hide hR
      have k8 : ¬ (k : Int) < (ws.length : Int) / 8 := by omega
      clear hR HS hke
      go_wp2_with fail
      refine bodyPost_ret (v := .tuple #[.slice va L.length vc, .int .i64 0]) (by simp [results, Try.results152, go_sem]) rfl ⟨?_, unhide HB⟩
      rw [(unhide HR).1, (unhide HR).2.1]
      exact ⟨_, L, rfl, unhide HV, rfl⟩
end Go.Proofs.Ytdijmijipgnlgaa
