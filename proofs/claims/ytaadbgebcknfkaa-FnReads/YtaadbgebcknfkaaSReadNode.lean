/-
  What spec.l3Read answers of a node's words.
-/
import Derived.Test.YtaadbgebcknfkaaSReadWalk
namespace Go.Proofs.Ytaadbgebcknfkaa
open Go.RowKit
set_option linter.unusedVariables false

theorem l1WordName_nm (n : Int) (w : World) (h0 : -9223372036854775808 ≤ n) (h1 : n ≤ 9223372036854775807) :
    Calls Try.prog 90 #[.int .i64 n] w fun e w' => e = .returned (.string (nmOf n)) ∧ Below w.heap.size w w' := l1WordName_any n w h0 h1
set_option maxRecDepth 20000 in
set_option maxHeartbeats 1500000 in
theorem l3Read_node (a : Option Addr) (c : Nat) (hc8 : 8 ≤ c) (x0 x1 x2 x3 x4 x5 x6 x7 : Int) (hx3 : -9223372036854775808 ≤ x3 ∧ x3 ≤ 9223372036854775807) (w : World) (h : IntsAt w a [x0, x1, x2, x3, x4, x5, x6, x7]) (hok : whOk x0 = true) (hk : x0 % 4 = 1) :
    Calls Try.prog 45 #[.slice a 8 c] w fun r w' => TRes w.heap.size w' r (readCode [x0, x1, x2, x3, x4, x5, x6, x7]) (readBlk [x0, x1, x2, x3, x4, x5, x6, x7]) ∧ Below w.heap.size w w' := by
  have hrd : readCode [x0, x1, x2, x3, x4, x5, x6, x7] = if againCode x0 x1 x2 x3 x4 = 0 ∧ againWords x0 x1 x2 x3 x4 = [x0, x1, x2, x3, x4, x5, x6, x7] then 0 else 5 := by
    rw [readCode, if_pos hok, if_neg (by omega)]
  have hac : againCode x0 x1 x2 x3 x4 = nodePCode (x0 / 16 % 1000) (x1 == 1) x2 (nmOf x3).data.toList x4 (x0 / 16000) := by unfold againCode; simp [hk]
  have haw : againWords x0 x1 x2 x3 x4 = nodeWords (x0 / 16 % 1000) (x1 == 1) x2 (nmOf x3).data.toList x4 (x0 / 16000) := by unfold againWords; simp [hk]
  have htb : toldBlk x0 x1 x2 x3 x4 = ⟨1, x0 / 16 % 1000, 0, x0 / 16000, x0 / 16 % 1000, x1 == 1, x2, nmOf x3, x4, []⟩ := by unfold toldBlk; simp [hk]
  have hbk : readBlk [x0, x1, x2, x3, x4, x5, x6, x7] = if readCode [x0, x1, x2, x3, x4, x5, x6, x7] = 0 then toldBlk x0 x1 x2 x3 x4 else Blk.none := rfl
  rw [hac, haw] at hrd
  rw [htb] at hbk
  have HRD := hide hrd
  have HBK := hide hbk
  clear hrd hbk hac haw htb
  have hi : x0 / 4 % 4 = 0 := by
    simp only [whOk, Bool.and_eq_true, headOk, hk] at hok
    have := hok.2
    simp [inB] at this
    omega
  have HI := hide hi
  clear hi
  obtain ⟨W, hW, hWz, HB0, HX0⟩ := boxes1 w [.int .i64 0, .int .i64 0, .int .i64 0, .int .i64 0, .int .i64 0, .bool false, .int .i64 0, .string ⟨#[]⟩, .int .i64 0, .slice none 0 0] 31
  obtain ⟨b, o, rfl, hb, q0, -⟩ := at8 h
  have H0 := hide (h.below (unhide HB0))
  have p0 : W.cell? ⟨b, o, none⟩ = some (.int .i64 x0) := ((bcell (unhide HB0)).1 _ _ hb).trans q0
  have HOK := hide hok
  have HK := hide hk
  clear h hok hk
  go_enter Try.func45, Try.ntmps45
  go_wp2_with fail
  rw [← hW]
  clear hW q0
  refine (l1Head_any x0 _ (unhide HOK)).mono ?_
  rintro r w1 ⟨rfl, hb1⟩
  rw [unhide HK, unhide HI]
  have HX1 := hide ((unhide HX0).below hb1)
  have HB1 := hide (below_step (unhide HB0) hb1 (by omega))
  have H1 := hide ((unhide H0).below hb1)
  have z1 : w.heap.size < w1.heap.size := by have := hb1.size; omega
  clear hb1 HX0 HB0 H0 p0
  generalize x0 / 16 % 1000 = u at *
  generalize x0 / 16000 = e at *
  obtain ⟨W3, hW3, hW3z, HBw, HH3, HT3, HR3⟩ := boxes3 w1 [.int .i64 1, .int .i64 u, .int .i64 0, .int .i64 e] [.int .i64 1, .int .i64 u, .int .i64 0, .int .i64 e, .int .i64 0, .bool false, .int .i64 0, .string ⟨#[]⟩, .int .i64 0, .slice none 0 0] [.int .i64 0, .slice (some ⟨b, o, none⟩) 8 c] 27 31 41
  have HX3 := hide ((unhide HX1).below (unhide HBw))
  have HB3 := hide (below_step (unhide HB1) (unhide HBw) (by omega))
  have H3 := hide ((unhide H1).below (unhide HBw))
  have z3 : w1.heap.size + 1 + 1 < W3.heap.size := by omega
  clear HX1 HB1 H1
  go_wp2_with fail
  rw [← hW3]
  clear hW3
  obtain ⟨-, -, -, hbl, -, d1, d2, d3, d4⟩ := at8' (unhide H3)
  have HT3d := hide (unhide HT3).drew
  have hh1 := (unhide HH3).drew.cell 1
  simp only [List.getElem?_cons_zero, List.getElem?_cons_succ] at hh1
  generalize hr4 : w1.heap.size = r4 at *
  have HR4E := hide hr4
  clear hr4
  obtain ⟨r6, hr6⟩ : ∃ r6, r6 = r4 + 1 := ⟨_, rfl⟩
  have HR6E := hide hr6
  have k0 : b < W3.heap.size ∧ b ≠ r6 := ⟨by omega, by omega⟩
  have k4 : r4 < W3.heap.size ∧ r4 ≠ r6 := ⟨by omega, by omega⟩
  have HS : Hid (Out (fun q => q = r6) W3 W3.drew ∧ W3.drew.cell? ⟨b, o + 1, none⟩ = some (.int .i64 x1) ∧ W3.drew.cell? ⟨b, o + 2, none⟩ = some (.int .i64 x2) ∧ W3.drew.cell? ⟨b, o + 3, none⟩ = some (.int .i64 x3) ∧ W3.drew.cell? ⟨b, o + 4, none⟩ = some (.int .i64 x4) ∧ W3.drew.cell? ⟨r4, 1, none⟩ = some (.int .i64 u) ∧ W3.drew.cell? ⟨r6, 4, none⟩ = some (cv W3.drew r6 4) ∧ W3.drew.cell? ⟨r6, 5, none⟩ = some (cv W3.drew r6 5) ∧ W3.drew.cell? ⟨r6, 6, none⟩ = some (cv W3.drew r6 6) ∧ W3.drew.cell? ⟨r6, 7, none⟩ = some (cv W3.drew r6 7) ∧ W3.drew.cell? ⟨r6, 8, none⟩ = some (cv W3.drew r6 8) ∧ W3.drew.frozen? ⟨r6, 4, none⟩ = false ∧ W3.drew.frozen? ⟨r6, 5, none⟩ = false ∧ W3.drew.frozen? ⟨r6, 6, none⟩ = false ∧ W3.drew.frozen? ⟨r6, 7, none⟩ = false ∧ W3.drew.frozen? ⟨r6, 8, none⟩ = false ∧ r6 < W3.drew.heap.size) := by
    rw [hr6]
    exact ⟨⟨rfl, rfl, rfl, Nat.le_refl _, fun _ _ _ => rfl⟩, d1, d2, d3, d4, hh1, cv_some ((unhide HT3d).cell 4), cv_some ((unhide HT3d).cell 5), cv_some ((unhide HT3d).cell 6), cv_some ((unhide HT3d).cell 7), cv_some ((unhide HT3d).cell 8), (unhide HT3d).frozen 4, (unhide HT3d).frozen 5, (unhide HT3d).frozen 6, (unhide HT3d).frozen 7, (unhide HT3d).frozen 8, (unhide HT3d).lt⟩
  rw [← hr6] at HT3d HT3 HR3 ⊢
  clear d1 d2 d3 d4 hh1 hr6
  generalize hxe : (x1 == 1) = xe at *
  have HXE := hide hxe
  go_region_held3 (fun w' => Out (fun q => q = r6) W3 w' ∧ w'.cell? ⟨b, o + 1, none⟩ = some (.int .i64 x1) ∧ w'.cell? ⟨b, o + 2, none⟩ = some (.int .i64 x2) ∧ w'.cell? ⟨b, o + 3, none⟩ = some (.int .i64 x3) ∧ w'.cell? ⟨b, o + 4, none⟩ = some (.int .i64 x4) ∧ w'.cell? ⟨r4, 1, none⟩ = some (.int .i64 u) ∧ w'.cell? ⟨r6, 4, none⟩ = some (cv w' r6 4) ∧ w'.cell? ⟨r6, 5, none⟩ = some (cv w' r6 5) ∧ w'.cell? ⟨r6, 6, none⟩ = some (cv w' r6 6) ∧ w'.cell? ⟨r6, 7, none⟩ = some (cv w' r6 7) ∧ w'.cell? ⟨r6, 8, none⟩ = some (cv w' r6 8) ∧ w'.frozen? ⟨r6, 4, none⟩ = false ∧ w'.frozen? ⟨r6, 5, none⟩ = false ∧ w'.frozen? ⟨r6, 6, none⟩ = false ∧ w'.frozen? ⟨r6, 7, none⟩ = false ∧ w'.frozen? ⟨r6, 8, none⟩ = false ∧ r6 < w'.heap.size) (first | with_reducible exact unhide HS | with_reducible exact QS_below k0 k0 k0 k0 k4 (by assumption) (by assumption) | with_reducible exact QS_set k0 k0 k0 k0 k4 (by assumption))
    (first
      | (go_at_call 90; refine (l1WordName_nm _ _ hx3.1 hx3.2).mono ?_; rintro r w5 ⟨rfl, hb5⟩))
  rename_i hSF
  have OU := hide (QS_out hSF)
  clear hSF
  have XU : Hid (Box (((((w5.setCell ⟨r6, 4, none⟩ (.int .i64 u)).setCell ⟨r6, 5, none⟩ (.bool xe)).setCell ⟨r6, 6, none⟩ (.int .i64 x2)).setCell ⟨r6, 7, none⟩ (.string (nmOf x3))).setCell ⟨r6, 8, none⟩ (.int .i64 x4)) r6 [.int .i64 1, .int .i64 u, .int .i64 0, .int .i64 e, .int .i64 u, .bool xe, .int .i64 x2, .string (nmOf x3), .int .i64 x4, .slice none 0 0] 31) := (((((unhide HT3d).below hb5).set 4 (.int .i64 u)).set 5 (.bool xe)).set 6 (.int .i64 x2)).set 7 (.string (nmOf x3)) |>.set 8 (.int .i64 x4)
  clear hb5
  generalize hU0 : ((((w5.setCell _ _).setCell _ _).setCell _ _).setCell _ _).setCell _ _ = U0 at *
  clear hU0
  have hr6 := unhide HR6E
  subst hr6
  have hr4 := unhide HR4E
  subst hr4
  have HX4 := hide ((unhide HX3).out (unhide OU) (by show ¬ w.heap.size = w1.heap.size + 1; omega))
  have HR4 := hide ((unhide HR3).out (unhide OU) (by show ¬ w1.heap.size + 1 + 1 = w1.heap.size + 1; omega))
  have HH4 := hide ((unhide HH3).out (unhide OU) (by show ¬ w1.heap.size = w1.heap.size + 1; omega))
  have H4 := hide ((unhide OU).ints (unhide H3) (fun x hx e => by cases hx; simp at e; omega))
  have HB4 := hide ((unhide OU).below (unhide HB3) (Nat.le_refl _) (fun q hq e => by omega))
  have z3v : w1.heap.size + 1 + 1 < U0.heap.size := by have := (unhide OU).size; omega
  clear HX3 HR3 HH3 H3 HB3 HT3 HT3d OU HS
  have HX3 := HX4
  have HR3 := HR4
  have HT3 := XU
  have H3 := H4
  have HB3 := HB4
  clear HX4 HR4 XU H4 HB4
  have t4 := (unhide HT3).cell 4
  have t5 := (unhide HT3).cell 5
  have t6 := (unhide HT3).cell 6
  have t7 := (unhide HT3).cell 7
  have t8 := (unhide HT3).cell 8
  have hh3 := (unhide HH4).cell 3
  simp only [List.getElem?_cons_zero, List.getElem?_cons_succ] at t4 t5 t6 t7 t8 hh3
  go_wp2_with fail
  clear t4 t5 t6 t7 t8 hh3 HH4
  refine (specPackNode_any u xe x2 (nmOf x3) x4 e _ (nmOf_size x3)).mono ?_
  rintro r w4 ⟨⟨v, rfl, ho⟩, hb4⟩
  obtain ⟨a4, c4, rfl, -, -, -, -⟩ := intsAt_own ho
  have A := hide (intsAt_own1 ho)
  have LA : Hid (∀ x, a4 = some x → w1.heap.size + 1 + 1 < x.block) := fun x hx => by
    have := ho.lt x.block (by rw [hx]; rfl)
    omega
  have HX := hide ((unhide HX3).below hb4)
  have HT := hide ((unhide HT3).below hb4)
  have HR := hide ((unhide HR3).below hb4)
  have H := hide ((unhide H3).below hb4)
  have HB := hide (below_step (unhide HB3) hb4 (by omega))
  have z4 : w1.heap.size + 1 + 1 < w4.heap.size := by have := hb4.size; omega
  clear hb4 ho HX3 HT3 HR3 H3 HB3
  generalize hcd : nodePCode u xe x2 (nmOf x3).data.toList x4 e = cd at *
  generalize hwd : nodeWords u xe x2 (nmOf x3).data.toList x4 e = wd at *
  have hwl : wd.length ≤ 1048576 := by rw [← hwd]; exact nodeWords_len _ _ _ _ _ _
  clear hcd hwd
  have r0 := (unhide HR).cell 0
  have r1 := (unhide HR).cell 1
  have g0 := (unhide HR).frozen 0
  have g1 := (unhide HR).frozen 1
  simp only [List.getElem?_cons_zero, List.getElem?_cons_succ] at r0 r1
  by_cases hc : cd = 0
  · have hcb : (cd != 0) = false := by simpa using hc
    have HC0 := hide hc
    clear hc
    go_wp2_with fail
    generalize hU : ((w4.setCell ⟨w1.heap.size + 1 + 1, 0, none⟩ (.int .i64 cd)).setCell ⟨w1.heap.size + 1 + 1, 1, none⟩ (.slice a4 wd.length c4)) = U at *
    obtain ⟨HRU, HOU⟩ := store2' (unhide HR) hU
    have HXU := hide ((unhide HX).out (unhide HOU) (by show ¬ w.heap.size = w1.heap.size + 1 + 1; omega))
    have HTU := hide ((unhide HT).out (unhide HOU) (by show ¬ w1.heap.size + 1 = w1.heap.size + 1 + 1; omega))
    have HBU := hide ((unhide HOU).below (unhide HB) (Nat.le_refl _) (fun q hq e => by omega))
    have HIU := hide ((unhide HOU).ints (unhide H) (fun x hx e => by cases hx; simp at e; omega))
    have HAU := hide ((unhide HOU).ints (unhide A) (fun x hx e => by have := unhide LA x hx; omega))
    have zU : w4.heap.size ≤ U.heap.size := (unhide HOU).size
    clear hU HOU HR HX HT HB H A r0 r1 g0 g1 HRU
    refine (l1Same_any a4 (some ⟨b, o, none⟩) c4 c wd [x0, x1, x2, x3, x4, x5, x6, x7] _ (unhide HAU) (unhide HIU) hwl).mono ?_
    rintro r w5 ⟨rfl, hb5⟩
    have HX5 := hide ((unhide HXU).below hb5)
    have HT5 := hide ((unhide HTU).below hb5)
    have HB5 := hide (below_step (unhide HBU) hb5 (by omega))
    clear hb5 HXU HTU HBU HIU HAU
    by_cases heq : wd = [x0, x1, x2, x3, x4, x5, x6, x7]
    · have hd : decide (wd = [x0, x1, x2, x3, x4, x5, x6, x7]) = true := by simpa using heq
      rw [hd]
      have HC : Hid (readCode [x0, x1, x2, x3, x4, x5, x6, x7] = 0) := by rw [Hid, unhide HRD, if_pos ⟨unhide HC0, heq⟩]
      have HC2 : Hid (readBlk [x0, x1, x2, x3, x4, x5, x6, x7] = ⟨1, u, 0, e, u, xe, x2, nmOf x3, x4, []⟩) := by rw [Hid, unhide HBK, if_pos (unhide HC)]
      clear hd heq
      go_wp2_with (first | (refine wpList_load_part rfl 31 (.tmp 6) rfl (w1.heap.size + 1) 0 rfl 31 _ [.int .i64 1, .int .i64 u, .int .i64 0, .int .i64 e, .int .i64 u, .bool xe, .int .i64 x2, .string (nmOf x3), .int .i64 x4, .slice none 0 0] (unhide HT5) rfl _ Try.underlying31 rfl (by kernel_rfl) ?_) | (refine wpList_store_part rfl 31 (.tmp 2) (.tmp 82) rfl w.heap.size 0 _ rfl rfl 31 _ (unhide HX5) (by kernel_rfl) (by simp) (by simp [Value.oneCell']) ?_; intro wZ XZ OZ))
      have XR : Hid (Box wZ w.heap.size [.int .i64 1, .int .i64 u, .int .i64 0, .int .i64 e, .int .i64 u, .bool xe, .int .i64 x2, .string (nmOf x3), .int .i64 x4, .slice none 0 0] 31) := XZ
      have BR : Hid (Below w.heap.size w wZ) := (unhide OZ).below (unhide HB5) (Nat.le_refl _) (fun q hq e => by omega)
      refine bodyPost_ret (results_cell_tmp Try.results45 _ wZ w.heap.size 31 _ (0, 0) _ _ rfl rfl (unhide XR) Try.underlying31 rfl (by kernel_rfl)) rfl ⟨?_, unhide BR⟩
      rw [unhide HC, unhide HC2]
      exact ⟨_, rfl, World.ownsRow_nil _ _ _ _⟩
    · have hd : decide (wd = [x0, x1, x2, x3, x4, x5, x6, x7]) = false := by simpa using heq
      rw [hd]
      have HC : Hid (readCode [x0, x1, x2, x3, x4, x5, x6, x7] = 5) := by rw [Hid, unhide HRD, if_neg (fun hh => heq hh.2)]
      have HC2 : Hid (readBlk [x0, x1, x2, x3, x4, x5, x6, x7] = Blk.none) := by rw [Hid, unhide HBK, if_neg (by rw [unhide HC]; decide)]
      clear hd heq
      go_wp2_with (first | (refine wpList_store_part rfl 31 (.tmp 2) (.tmp 81) rfl w.heap.size 0 _ rfl rfl 31 _ (unhide HX5) (by kernel_rfl) (by simp) (by simp [Value.oneCell']) ?_; intro wZ XZ OZ))
      have XR : Hid (Box wZ w.heap.size [.int .i64 0, .int .i64 0, .int .i64 0, .int .i64 0, .int .i64 0, .bool false, .int .i64 0, .string ⟨#[]⟩, .int .i64 0, .slice none 0 0] 31) := XZ
      have BR : Hid (Below w.heap.size w wZ) := (unhide OZ).below (unhide HB5) (Nat.le_refl _) (fun q hq e => by omega)
      refine bodyPost_ret (results_cell_tmp Try.results45 _ wZ w.heap.size 31 _ (0, 0) _ _ rfl rfl (unhide XR) Try.underlying31 rfl (by kernel_rfl)) rfl ⟨?_, unhide BR⟩
      rw [unhide HC, unhide HC2]
      exact ⟨_, rfl, World.ownsRow_nil _ _ _ _⟩
  · have hcb : (cd != 0) = true := by simpa using hc
    have HC : Hid (readCode [x0, x1, x2, x3, x4, x5, x6, x7] = 5) := by rw [Hid, unhide HRD, if_neg (fun hh => hc hh.1)]
    have HC2 : Hid (readBlk [x0, x1, x2, x3, x4, x5, x6, x7] = Blk.none) := by rw [Hid, unhide HBK, if_neg (by rw [unhide HC]; decide)]
    clear hc
    go_wp2_with (first | (refine wpList_store_part rfl 31 (.tmp 2) (.tmp 81) rfl w.heap.size 0 _ rfl rfl 31 _ (((unhide HX).set_other (p := ⟨w1.heap.size + 1 + 1, 0, none⟩) (by show w.heap.size ≠ w1.heap.size + 1 + 1; omega) _).set_other (p := ⟨w1.heap.size + 1 + 1, 1, none⟩) (by show w.heap.size ≠ w1.heap.size + 1 + 1; omega) _) (by kernel_rfl) (by simp) (by simp [Value.oneCell']) ?_; intro wZ XZ OZ))
    have XR : Hid (Box wZ w.heap.size [.int .i64 0, .int .i64 0, .int .i64 0, .int .i64 0, .int .i64 0, .bool false, .int .i64 0, .string ⟨#[]⟩, .int .i64 0, .slice none 0 0] 31) := XZ
    have BR : Hid (Below w.heap.size w wZ) := (unhide OZ).below (((unhide HB).setCell (p := ⟨w1.heap.size + 1 + 1, 0, none⟩) (by show w.heap.size ≤ w1.heap.size + 1 + 1; omega) _).setCell (p := ⟨w1.heap.size + 1 + 1, 1, none⟩) (by show w.heap.size ≤ w1.heap.size + 1 + 1; omega) _) (Nat.le_refl _) (fun q hq e => by omega)
    refine bodyPost_ret (results_cell_tmp Try.results45 _ wZ w.heap.size 31 _ (0, 0) _ _ rfl rfl (unhide XR) Try.underlying31 rfl (by kernel_rfl)) rfl ⟨?_, unhide BR⟩
    rw [unhide HC, unhide HC2]
    exact ⟨_, rfl, World.ownsRow_nil _ _ _ _⟩
end Go.Proofs.Ytaadbgebcknfkaa
