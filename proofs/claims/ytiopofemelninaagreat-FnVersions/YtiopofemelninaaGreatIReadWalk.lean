/-
  What impl.ReadBlock answers.
-/
import Derived.Test.YtiopofemelninaaGreatBlockOfWalk
namespace Go.Proofs.YtiopofemelninaaGreat
open Go.RowKit
set_option linter.unusedVariables false

set_option maxRecDepth 20000 in
set_option maxHeartbeats 4000000 in
theorem readBlock_gone (a : Option Addr) (c : Nat) (hc8 : 8 ≤ c) (x0 x1 x2 x3 x4 x5 x6 x7 : Int) (w : World) (h : IntsAt w a [x0, x1, x2, x3, x4, x5, x6, x7]) (hok : whOk x0 = true) (hk : x0 % 4 = 3) :
    Calls Tryz.prog 82 #[.slice a 8 c] w fun r w' => BRes w.heap.size w' r (readCode [x0, x1, x2, x3, x4, x5, x6, x7]) (readBlk [x0, x1, x2, x3, x4, x5, x6, x7]) ∧ Below w.heap.size w w' := by
  have hrd : readCode [x0, x1, x2, x3, x4, x5, x6, x7] = if againCode x0 x1 x2 x3 x4 = 0 ∧ againWords x0 x1 x2 x3 x4 = [x0, x1, x2, x3, x4, x5, x6, x7] then 0 else 5 := by
    rw [readCode, if_pos hok, if_neg (by omega)]
  have hac : againCode x0 x1 x2 x3 x4 = goneCode (x0 / 16 % 1000) (x0 / 16000) := by unfold againCode; simp [hk]
  have haw : againWords x0 x1 x2 x3 x4 = goneWords (x0 / 16 % 1000) (x0 / 16000) := by unfold againWords; simp [hk]
  have htb : toldBlk x0 x1 x2 x3 x4 = ⟨3, x0 / 16 % 1000, 0, x0 / 16000, 0, false, 0, ⟨#[]⟩, 0, []⟩ := by unfold toldBlk; simp [hk]
  have hbk : readBlk [x0, x1, x2, x3, x4, x5, x6, x7] = if readCode [x0, x1, x2, x3, x4, x5, x6, x7] = 0 then toldBlk x0 x1 x2 x3 x4 else Blk.none := rfl
  rw [hac, haw] at hrd
  rw [htb] at hbk
  have HRD := hide hrd
  have HBK := hide hbk
  clear hrd hbk hac haw htb
  obtain ⟨W, hW, hWz, HB0, HX0⟩ := boxes1 w [.int .i64 0, .int .i64 0, .int .i64 0, .int .i64 0, .int .i64 0, .int .i64 0, .bool false, .int .i64 0, .string ⟨#[]⟩, .int .i64 0, .slice none 0 0] 143
  obtain ⟨b, o, rfl, hb, q0, -⟩ := at8 h
  have H := hide (h.below (unhide HB0))
  have p0 : W.cell? ⟨b, o, none⟩ = some (.int .i64 x0) := ((bcell (unhide HB0)).1 _ _ hb).trans q0
  have hv : whVal x0 = .agg #[.int .i64 0, .int .i64 3, .int .i64 (x0 / 16 % 1000), .int .i64 (x0 / 4 % 4), .int .i64 (x0 / 16000)] := by rw [whVal, if_pos hok, hk]
  have HV := hide hv
  clear h hv hok hk
  go_enter Tryz.func82, Tryz.ntmps82
  go_wp2_with fail
  rw [← hW]
  clear hW q0
  refine (implWordHead_any x0 _).mono ?_
  rintro r w1 ⟨rfl, hb1⟩
  rw [unhide HV]
  have HX1 := hide ((unhide HX0).below hb1)
  have HB1 := hide (below_step (unhide HB0) hb1 (by omega))
  have H1 := hide ((unhide H).below hb1)
  have z1 : w.heap.size < w1.heap.size := by have := hb1.size; omega
  clear hb1 HX0 HB0 H p0
  generalize x0 / 16 % 1000 = u at *
  generalize x0 / 4 % 4 = i at *
  generalize x0 / 16000 = e at *
  go_wp2_with fail
  obtain ⟨W1, hW1, hW1z, HBw, -⟩ := boxes1 w1 [.int .i64 0, .int .i64 3, .int .i64 u, .int .i64 i, .int .i64 e] 140
  rw [← hW1]
  clear hW1
  refine (contentOf_gone u i e _ _ _ _).mono ?_
  rintro r w2 ⟨rfl, hb2⟩
  have hb2' := below_step (unhide HBw) hb2 (by omega)
  have HX2 := hide ((unhide HX1).below hb2')
  have HB2 := hide (below_step (unhide HB1) hb2' (by omega))
  have H2 := hide ((unhide H1).below hb2')
  have z2 : w.heap.size < w2.heap.size := by have := hb2'.size; omega
  have zw : w1.heap.size ≤ w2.heap.size := hb2'.size
  clear hb2 hb2' HBw HX1 HB1 H1
  go_wp2_with fail
  refine (packedGone_any u e _).mono ?_
  rintro r w3 ⟨⟨v, rfl, ho⟩, hb3⟩
  obtain ⟨a3, c3, rfl, -, -, -, -⟩ := intsAt_own ho
  have A3 := hide (intsAt_own1 ho)
  have HX3 := hide ((unhide HX2).below hb3)
  have HB3 := hide (below_step (unhide HB2) hb3 (by omega))
  have H3 := hide ((unhide H2).below hb3)
  have z3 : w.heap.size < w3.heap.size := by have := hb3.size; omega
  clear hb3 ho HX2 HB2 H2
  generalize hcd : goneCode u e = cd at *
  generalize hwd : goneWords u e = wd at *
  have HCD := hide hcd
  have HWD := hide hwd
  have hwl : wd.length ≤ 1048576 := by rw [← hwd]; exact goneWords_len _ _
  clear hcd hwd
  by_cases hc : cd = 0
  · have hcb : (cd != 0) = false := by simpa using hc
    obtain ⟨W3, hW3, hW3z, HBv, -⟩ := boxes1 w3 [.int .i64 cd, .slice a3 wd.length c3] 153
    have HC0 := hide hc
    clear hc
    go_wp2_with fail
    rw [← hW3]
    clear hW3
    refine (eqInts_any a3 (some ⟨b, o, none⟩) c3 c wd [x0, x1, x2, x3, x4, x5, x6, x7] _ ((unhide A3).below (unhide HBv)) ((unhide H3).below (unhide HBv)) hwl).mono ?_
    rintro r w4 ⟨rfl, hb4⟩
    have HBv := hide (below_step (unhide HBv) hb4 (unhide HBv).size)
    have z4 : w3.heap.size ≤ w4.heap.size := (unhide HBv).size
    clear hb4
    by_cases heq : wd = [x0, x1, x2, x3, x4, x5, x6, x7]
    · have hd : decide (wd = [x0, x1, x2, x3, x4, x5, x6, x7]) = true := by simpa using heq
      rw [hd]
      have HC : Hid (readCode [x0, x1, x2, x3, x4, x5, x6, x7] = 0) := by rw [Hid, unhide HRD, if_pos ⟨unhide HC0, heq⟩]
      have HC2 : Hid (readBlk [x0, x1, x2, x3, x4, x5, x6, x7] = ⟨3, u, 0, e, 0, false, 0, ⟨#[]⟩, 0, []⟩) := by rw [Hid, unhide HBK, if_pos (unhide HC)]
      clear hd heq
      go_wp2_with fail
      refine (blockOf_gone u e _).mono ?_
      rintro r w5 ⟨rfl, hb5⟩
      have hb35 := below_step (unhide HBv) hb5 (by omega)
      have HX5 := hide ((unhide HX3).below hb35)
      have HB5 := hide (below_step (unhide HB3) hb35 (by omega))
      have z5 : w.heap.size < w5.heap.size := by have := hb35.size; omega
      clear hb5 hb35
      go_wp2_with (first | (refine wpList_store_part rfl 143 (.tmp 2) (.tmp 45) rfl w.heap.size 0 _ rfl rfl 143 _ (unhide HX5) (by kernel_rfl) (by simp) (by simp [Value.oneCell']) ?_; intro wZ XZ OZ))
      have XR : Hid (Box wZ w.heap.size [.int .i64 0, .int .i64 3, .int .i64 u, .int .i64 0, .int .i64 e, .int .i64 0, .bool false, .int .i64 0, .string ⟨#[]⟩, .int .i64 0, .slice none 0 0] 143) := XZ
      have BR : Hid (Below w.heap.size w wZ) := (unhide OZ).below (unhide HB5) (Nat.le_refl _) (fun q hq e => by omega)
      refine bodyPost_ret (results_cell_row Tryz.results82 _ wZ w.heap.size 143 _ (0, 0) _ rfl (unhide XR) Tryz.underlying143 rfl (by kernel_rfl)) rfl ⟨?_, unhide BR⟩
      rw [unhide HC, unhide HC2]
      exact ⟨_, rfl, World.ownsRow_nil _ _ _ _⟩
    · have hd : decide (wd = [x0, x1, x2, x3, x4, x5, x6, x7]) = false := by simpa using heq
      rw [hd]
      have HC : Hid (readCode [x0, x1, x2, x3, x4, x5, x6, x7] = 5) := by rw [Hid, unhide HRD, if_neg (fun hh => heq hh.2)]
      have HC2 : Hid (readBlk [x0, x1, x2, x3, x4, x5, x6, x7] = Blk.none) := by rw [Hid, unhide HBK, if_neg (by rw [unhide HC]; decide)]
      clear hd heq
      go_wp2_with (first | (refine wpList_store_part rfl 143 (.tmp 2) (.tmp 42) rfl w.heap.size 0 _ rfl rfl 143 _ ((unhide HX3).below (unhide HBv)) (by kernel_rfl) (by simp) (by simp [Value.oneCell']) ?_; intro wZ XZ OZ))
      have XR : Hid (Box wZ w.heap.size [.int .i64 5, .int .i64 0, .int .i64 0, .int .i64 0, .int .i64 0, .int .i64 0, .bool false, .int .i64 0, .string ⟨#[]⟩, .int .i64 0, .slice none 0 0] 143) := XZ
      have BR : Hid (Below w.heap.size w wZ) := (unhide OZ).below (below_step (unhide HB3) (unhide HBv) (by omega)) (Nat.le_refl _) (fun q hq e => by omega)
      refine bodyPost_ret (results_cell_row Tryz.results82 _ wZ w.heap.size 143 _ (0, 0) _ rfl (unhide XR) Tryz.underlying143 rfl (by kernel_rfl)) rfl ⟨?_, unhide BR⟩
      rw [unhide HC, unhide HC2]
      exact ⟨_, rfl, World.ownsRow_nil _ _ _ _⟩
  · have hcb : (cd != 0) = true := by simpa using hc
    have HC : Hid (readCode [x0, x1, x2, x3, x4, x5, x6, x7] = 5) := by rw [Hid, unhide HRD, if_neg (fun hh => hc hh.1)]
    have HC2 : Hid (readBlk [x0, x1, x2, x3, x4, x5, x6, x7] = Blk.none) := by rw [Hid, unhide HBK, if_neg (by rw [unhide HC]; decide)]
    clear hc
    go_wp2_with (first | (refine wpList_store_part rfl 143 (.tmp 2) (.tmp 42) rfl w.heap.size 0 _ rfl rfl 143 _ ((unhide HX3).alloc _) (by kernel_rfl) (by simp) (by simp [Value.oneCell']) ?_; intro wZ XZ OZ))
    have XR : Hid (Box wZ w.heap.size [.int .i64 5, .int .i64 0, .int .i64 0, .int .i64 0, .int .i64 0, .int .i64 0, .bool false, .int .i64 0, .string ⟨#[]⟩, .int .i64 0, .slice none 0 0] 143) := XZ
    have BR : Hid (Below w.heap.size w wZ) := (unhide OZ).below ((unhide HB3).alloc (by omega) _) (Nat.le_refl _) (fun q hq e => by omega)
    refine bodyPost_ret (results_cell_row Tryz.results82 _ wZ w.heap.size 143 _ (0, 0) _ rfl (unhide XR) Tryz.underlying143 rfl (by kernel_rfl)) rfl ⟨?_, unhide BR⟩
    rw [unhide HC, unhide HC2]
    exact ⟨_, rfl, World.ownsRow_nil _ _ _ _⟩
set_option maxRecDepth 20000 in
set_option maxHeartbeats 4000000 in
theorem readBlock_node (a : Option Addr) (c : Nat) (hc8 : 8 ≤ c) (x0 x1 x2 x3 x4 x5 x6 x7 : Int) (w : World) (h : IntsAt w a [x0, x1, x2, x3, x4, x5, x6, x7]) (hok : whOk x0 = true) (hk : x0 % 4 = 1) :
    Calls Tryz.prog 82 #[.slice a 8 c] w fun r w' => BRes w.heap.size w' r (readCode [x0, x1, x2, x3, x4, x5, x6, x7]) (readBlk [x0, x1, x2, x3, x4, x5, x6, x7]) ∧ Below w.heap.size w w' := by
  have hrd : readCode [x0, x1, x2, x3, x4, x5, x6, x7] = if againCode x0 x1 x2 x3 x4 = 0 ∧ againWords x0 x1 x2 x3 x4 = [x0, x1, x2, x3, x4, x5, x6, x7] then 0 else 5 := by
    rw [readCode, if_pos hok, if_neg (by omega)]
  have hac : againCode x0 x1 x2 x3 x4 = nodePCode (x0 / 16 % 1000) (x1 == 1) x2 (nmOf x3).data.toList x4 (x0 / 16000) := by unfold againCode; simp [hk]
  have haw : againWords x0 x1 x2 x3 x4 = nodeWords (x0 / 16 % 1000) (x1 == 1) x2 (nmOf x3).data.toList x4 (x0 / 16000) := by unfold againWords; simp [hk]
  have htb : toldBlk x0 x1 x2 x3 x4 = ⟨1, x0 / 16 % 1000, 0, x0 / 16000, x0 / 16 % 1000, x1 == 1, x2, nmOf x3, x4, []⟩ := by unfold toldBlk; simp [hk]
  have hbk : readBlk [x0, x1, x2, x3, x4, x5, x6, x7] = if readCode [x0, x1, x2, x3, x4, x5, x6, x7] = 0 then toldBlk x0 x1 x2 x3 x4 else Blk.none := rfl
  rw [hac, haw] at hrd
  rw [htb] at hbk
  have HRD := hide hrd
  have HBK := hide hbk
  clear hrd hbk hac haw htb
  obtain ⟨W, hW, hWz, HB0, HX0⟩ := boxes1 w [.int .i64 0, .int .i64 0, .int .i64 0, .int .i64 0, .int .i64 0, .int .i64 0, .bool false, .int .i64 0, .string ⟨#[]⟩, .int .i64 0, .slice none 0 0] 143
  obtain ⟨b, o, rfl, hb, q0, -⟩ := at8 h
  have H := hide (h.below (unhide HB0))
  have p0 : W.cell? ⟨b, o, none⟩ = some (.int .i64 x0) := ((bcell (unhide HB0)).1 _ _ hb).trans q0
  have hv : whVal x0 = .agg #[.int .i64 0, .int .i64 1, .int .i64 (x0 / 16 % 1000), .int .i64 (x0 / 4 % 4), .int .i64 (x0 / 16000)] := by rw [whVal, if_pos hok, hk]
  have HV := hide hv
  clear h hv hok hk
  go_enter Tryz.func82, Tryz.ntmps82
  go_wp2_with fail
  rw [← hW]
  clear hW q0
  refine (implWordHead_any x0 _).mono ?_
  rintro r w1 ⟨rfl, hb1⟩
  rw [unhide HV]
  have HX1 := hide ((unhide HX0).below hb1)
  have HB1 := hide (below_step (unhide HB0) hb1 (by omega))
  have H1 := hide ((unhide H).below hb1)
  have z1 : w.heap.size < w1.heap.size := by have := hb1.size; omega
  clear hb1 HX0 HB0 H p0
  generalize x0 / 16 % 1000 = u at *
  generalize x0 / 4 % 4 = i at *
  generalize x0 / 16000 = e at *
  go_wp2_with fail
  obtain ⟨W1, hW1, hW1z, HBw, -⟩ := boxes1 w1 [.int .i64 0, .int .i64 1, .int .i64 u, .int .i64 i, .int .i64 e] 140
  rw [← hW1]
  clear hW1
  refine (contentOf_node u i e (some ⟨b, o, none⟩) c x0 x1 x2 x3 x4 x5 x6 x7 _ ((unhide H1).below (unhide HBw))).mono ?_
  rintro r w2 ⟨rfl, hb2⟩
  have hb2' := below_step (unhide HBw) hb2 (by omega)
  have HX2 := hide ((unhide HX1).below hb2')
  have HB2 := hide (below_step (unhide HB1) hb2' (by omega))
  have H2 := hide ((unhide H1).below hb2')
  have z2 : w.heap.size < w2.heap.size := by have := hb2'.size; omega
  have zw : w1.heap.size ≤ w2.heap.size := hb2'.size
  clear hb2 hb2' HBw HX1 HB1 H1
  go_wp2_with fail
  refine (packedNode_any u (x1 == 1) x2 (nmOf x3) x4 e _ (nmOf_size x3)).mono ?_
  rintro r w3 ⟨⟨v, rfl, ho⟩, hb3⟩
  obtain ⟨a3, c3, rfl, -, -, -, -⟩ := intsAt_own ho
  have A3 := hide (intsAt_own1 ho)
  have HX3 := hide ((unhide HX2).below hb3)
  have HB3 := hide (below_step (unhide HB2) hb3 (by omega))
  have H3 := hide ((unhide H2).below hb3)
  have z3 : w.heap.size < w3.heap.size := by have := hb3.size; omega
  clear hb3 ho HX2 HB2 H2
  generalize hcd : nodePCode u (x1 == 1) x2 (nmOf x3).data.toList x4 e = cd at *
  generalize hwd : nodeWords u (x1 == 1) x2 (nmOf x3).data.toList x4 e = wd at *
  have HCD := hide hcd
  have HWD := hide hwd
  have hwl : wd.length ≤ 1048576 := by rw [← hwd]; exact nodeWords_len _ _ _ _ _ _
  clear hcd hwd
  by_cases hc : cd = 0
  · have hcb : (cd != 0) = false := by simpa using hc
    obtain ⟨W3, hW3, hW3z, HBv, -⟩ := boxes1 w3 [.int .i64 cd, .slice a3 wd.length c3] 153
    have HC0 := hide hc
    clear hc
    go_wp2_with fail
    rw [← hW3]
    clear hW3
    refine (eqInts_any a3 (some ⟨b, o, none⟩) c3 c wd [x0, x1, x2, x3, x4, x5, x6, x7] _ ((unhide A3).below (unhide HBv)) ((unhide H3).below (unhide HBv)) hwl).mono ?_
    rintro r w4 ⟨rfl, hb4⟩
    have HBv := hide (below_step (unhide HBv) hb4 (unhide HBv).size)
    have z4 : w3.heap.size ≤ w4.heap.size := (unhide HBv).size
    clear hb4
    by_cases heq : wd = [x0, x1, x2, x3, x4, x5, x6, x7]
    · have hd : decide (wd = [x0, x1, x2, x3, x4, x5, x6, x7]) = true := by simpa using heq
      rw [hd]
      have HC : Hid (readCode [x0, x1, x2, x3, x4, x5, x6, x7] = 0) := by rw [Hid, unhide HRD, if_pos ⟨unhide HC0, heq⟩]
      have HC2 : Hid (readBlk [x0, x1, x2, x3, x4, x5, x6, x7] = ⟨1, u, 0, e, u, x1 == 1, x2, nmOf x3, x4, []⟩) := by rw [Hid, unhide HBK, if_pos (unhide HC)]
      clear hd heq
      go_wp2_with fail
      refine (blockOf_node u (x1 == 1) x2 (nmOf x3) x4 e _).mono ?_
      rintro r w5 ⟨rfl, hb5⟩
      have hb35 := below_step (unhide HBv) hb5 (by omega)
      have HX5 := hide ((unhide HX3).below hb35)
      have HB5 := hide (below_step (unhide HB3) hb35 (by omega))
      have z5 : w.heap.size < w5.heap.size := by have := hb35.size; omega
      clear hb5 hb35
      go_wp2_with (first | (refine wpList_store_part rfl 143 (.tmp 2) (.tmp 45) rfl w.heap.size 0 _ rfl rfl 143 _ (unhide HX5) (by kernel_rfl) (by simp) (by simp [Value.oneCell']) ?_; intro wZ XZ OZ))
      have XR : Hid (Box wZ w.heap.size [.int .i64 0, .int .i64 1, .int .i64 u, .int .i64 0, .int .i64 e, .int .i64 u, .bool (x1 == 1), .int .i64 x2, .string (nmOf x3), .int .i64 x4, .slice none 0 0] 143) := XZ
      have BR : Hid (Below w.heap.size w wZ) := (unhide OZ).below (unhide HB5) (Nat.le_refl _) (fun q hq e => by omega)
      refine bodyPost_ret (results_cell_row Tryz.results82 _ wZ w.heap.size 143 _ (0, 0) _ rfl (unhide XR) Tryz.underlying143 rfl (by kernel_rfl)) rfl ⟨?_, unhide BR⟩
      rw [unhide HC, unhide HC2]
      exact ⟨_, rfl, World.ownsRow_nil _ _ _ _⟩
    · have hd : decide (wd = [x0, x1, x2, x3, x4, x5, x6, x7]) = false := by simpa using heq
      rw [hd]
      have HC : Hid (readCode [x0, x1, x2, x3, x4, x5, x6, x7] = 5) := by rw [Hid, unhide HRD, if_neg (fun hh => heq hh.2)]
      have HC2 : Hid (readBlk [x0, x1, x2, x3, x4, x5, x6, x7] = Blk.none) := by rw [Hid, unhide HBK, if_neg (by rw [unhide HC]; decide)]
      clear hd heq
      go_wp2_with (first | (refine wpList_store_part rfl 143 (.tmp 2) (.tmp 42) rfl w.heap.size 0 _ rfl rfl 143 _ ((unhide HX3).below (unhide HBv)) (by kernel_rfl) (by simp) (by simp [Value.oneCell']) ?_; intro wZ XZ OZ))
      have XR : Hid (Box wZ w.heap.size [.int .i64 5, .int .i64 0, .int .i64 0, .int .i64 0, .int .i64 0, .int .i64 0, .bool false, .int .i64 0, .string ⟨#[]⟩, .int .i64 0, .slice none 0 0] 143) := XZ
      have BR : Hid (Below w.heap.size w wZ) := (unhide OZ).below (below_step (unhide HB3) (unhide HBv) (by omega)) (Nat.le_refl _) (fun q hq e => by omega)
      refine bodyPost_ret (results_cell_row Tryz.results82 _ wZ w.heap.size 143 _ (0, 0) _ rfl (unhide XR) Tryz.underlying143 rfl (by kernel_rfl)) rfl ⟨?_, unhide BR⟩
      rw [unhide HC, unhide HC2]
      exact ⟨_, rfl, World.ownsRow_nil _ _ _ _⟩
  · have hcb : (cd != 0) = true := by simpa using hc
    have HC : Hid (readCode [x0, x1, x2, x3, x4, x5, x6, x7] = 5) := by rw [Hid, unhide HRD, if_neg (fun hh => hc hh.1)]
    have HC2 : Hid (readBlk [x0, x1, x2, x3, x4, x5, x6, x7] = Blk.none) := by rw [Hid, unhide HBK, if_neg (by rw [unhide HC]; decide)]
    clear hc
    go_wp2_with (first | (refine wpList_store_part rfl 143 (.tmp 2) (.tmp 42) rfl w.heap.size 0 _ rfl rfl 143 _ ((unhide HX3).alloc _) (by kernel_rfl) (by simp) (by simp [Value.oneCell']) ?_; intro wZ XZ OZ))
    have XR : Hid (Box wZ w.heap.size [.int .i64 5, .int .i64 0, .int .i64 0, .int .i64 0, .int .i64 0, .int .i64 0, .bool false, .int .i64 0, .string ⟨#[]⟩, .int .i64 0, .slice none 0 0] 143) := XZ
    have BR : Hid (Below w.heap.size w wZ) := (unhide OZ).below ((unhide HB3).alloc (by omega) _) (Nat.le_refl _) (fun q hq e => by omega)
    refine bodyPost_ret (results_cell_row Tryz.results82 _ wZ w.heap.size 143 _ (0, 0) _ rfl (unhide XR) Tryz.underlying143 rfl (by kernel_rfl)) rfl ⟨?_, unhide BR⟩
    rw [unhide HC, unhide HC2]
    exact ⟨_, rfl, World.ownsRow_nil _ _ _ _⟩
set_option maxRecDepth 20000 in
set_option maxHeartbeats 4000000 in
theorem readBlock_piece (a : Option Addr) (c : Nat) (hc8 : 8 ≤ c) (x0 x1 x2 x3 x4 x5 x6 x7 : Int) (w : World) (h : IntsAt w a [x0, x1, x2, x3, x4, x5, x6, x7]) (hok : whOk x0 = true) (hk : x0 % 4 = 2) :
    Calls Tryz.prog 82 #[.slice a 8 c] w fun r w' => BRes w.heap.size w' r (readCode [x0, x1, x2, x3, x4, x5, x6, x7]) (readBlk [x0, x1, x2, x3, x4, x5, x6, x7]) ∧ Below w.heap.size w w' := by
  have hrd : readCode [x0, x1, x2, x3, x4, x5, x6, x7] = if againCode x0 x1 x2 x3 x4 = 0 ∧ againWords x0 x1 x2 x3 x4 = [x0, x1, x2, x3, x4, x5, x6, x7] then 0 else 5 := by
    rw [readCode, if_pos hok, if_neg (by omega)]
  have hac : againCode x0 x1 x2 x3 x4 = dataCode (x0 / 16 % 1000) (x0 / 4 % 4) [x1, x2, x3, x4] (x0 / 16000) := by unfold againCode; simp [hk]
  have haw : againWords x0 x1 x2 x3 x4 = dataWords (x0 / 16 % 1000) (x0 / 4 % 4) [x1, x2, x3, x4] (x0 / 16000) := by unfold againWords; simp [hk]
  have htb : toldBlk x0 x1 x2 x3 x4 = ⟨2, x0 / 16 % 1000, x0 / 4 % 4, x0 / 16000, 0, false, 0, ⟨#[]⟩, 0, [x1, x2, x3, x4]⟩ := by unfold toldBlk; simp [hk]
  have hbk : readBlk [x0, x1, x2, x3, x4, x5, x6, x7] = if readCode [x0, x1, x2, x3, x4, x5, x6, x7] = 0 then toldBlk x0 x1 x2 x3 x4 else Blk.none := rfl
  rw [hac, haw] at hrd
  rw [htb] at hbk
  have HRD := hide hrd
  have HBK := hide hbk
  clear hrd hbk hac haw htb
  obtain ⟨W, hW, hWz, HB0, HX0⟩ := boxes1 w [.int .i64 0, .int .i64 0, .int .i64 0, .int .i64 0, .int .i64 0, .int .i64 0, .bool false, .int .i64 0, .string ⟨#[]⟩, .int .i64 0, .slice none 0 0] 143
  obtain ⟨b, o, rfl, hb, q0, -⟩ := at8 h
  have H := hide (h.below (unhide HB0))
  have p0 : W.cell? ⟨b, o, none⟩ = some (.int .i64 x0) := ((bcell (unhide HB0)).1 _ _ hb).trans q0
  have hv : whVal x0 = .agg #[.int .i64 0, .int .i64 2, .int .i64 (x0 / 16 % 1000), .int .i64 (x0 / 4 % 4), .int .i64 (x0 / 16000)] := by rw [whVal, if_pos hok, hk]
  have HV := hide hv
  clear h hv hok hk
  go_enter Tryz.func82, Tryz.ntmps82
  go_wp2_with fail
  rw [← hW]
  clear hW q0
  refine (implWordHead_any x0 _).mono ?_
  rintro r w1 ⟨rfl, hb1⟩
  rw [unhide HV]
  have HX1 := hide ((unhide HX0).below hb1)
  have HB1 := hide (below_step (unhide HB0) hb1 (by omega))
  have H1 := hide ((unhide H).below hb1)
  have z1 : w.heap.size < w1.heap.size := by have := hb1.size; omega
  clear hb1 HX0 HB0 H p0
  generalize x0 / 16 % 1000 = u at *
  generalize x0 / 4 % 4 = i at *
  generalize x0 / 16000 = e at *
  go_wp2_with fail
  obtain ⟨W1, hW1, hW1z, HBw, -⟩ := boxes1 w1 [.int .i64 0, .int .i64 2, .int .i64 u, .int .i64 i, .int .i64 e] 140
  rw [← hW1]
  clear hW1
  refine (contentOf_piece u i e (some ⟨b, o, none⟩) c hc8 x0 x1 x2 x3 x4 x5 x6 x7 _ ((unhide H1).below (unhide HBw))).mono ?_
  rintro r w2 ⟨⟨a1, c1, rfl, hoc⟩, hb2⟩
  have hb2' := below_step (unhide HBw) hb2 (by omega)
  have HX2 := hide ((unhide HX1).below hb2')
  have HB2 := hide (below_step (unhide HB1) hb2' (by omega))
  have H2 := hide ((unhide H1).below hb2')
  have z2 : w.heap.size < w2.heap.size := by have := hb2'.size; omega
  have zw : w1.heap.size ≤ w2.heap.size := hb2'.size
  have HO2 := hide hoc
  have N2 := hide (intsAt_own1 (l := [x1, x2, x3, x4]) hoc)
  clear hoc
  clear hb2 hb2' HBw HX1 HB1 H1
  go_wp2_with fail
  refine (packedPiece_any u i a1 c1 [x1, x2, x3, x4] e _ (unhide N2) (by simp)).mono ?_
  rintro r w3 ⟨⟨v, rfl, ho⟩, hb3⟩
  obtain ⟨a3, c3, rfl, -, -, -, -⟩ := intsAt_own ho
  have A3 := hide (intsAt_own1 ho)
  have HX3 := hide ((unhide HX2).below hb3)
  have HB3 := hide (below_step (unhide HB2) hb3 (by omega))
  have H3 := hide ((unhide H2).below hb3)
  have z3 : w.heap.size < w3.heap.size := by have := hb3.size; omega
  have HO3 := hide (own_below (unhide HO2) hb3)
  clear HO2 N2
  clear hb3 ho HX2 HB2 H2
  generalize hcd : dataCode u i [x1, x2, x3, x4] e = cd at *
  generalize hwd : dataWords u i [x1, x2, x3, x4] e = wd at *
  have HCD := hide hcd
  have HWD := hide hwd
  have hwl : wd.length ≤ 1048576 := by rw [← hwd]; exact dataWords_len _ _ _ _
  clear hcd hwd
  by_cases hc : cd = 0
  · have hcb : (cd != 0) = false := by simpa using hc
    obtain ⟨W3, hW3, hW3z, HBv, -⟩ := boxes1 w3 [.int .i64 cd, .slice a3 wd.length c3] 153
    have HC0 := hide hc
    clear hc
    go_wp2_with fail
    rw [← hW3]
    clear hW3
    refine (eqInts_any a3 (some ⟨b, o, none⟩) c3 c wd [x0, x1, x2, x3, x4, x5, x6, x7] _ ((unhide A3).below (unhide HBv)) ((unhide H3).below (unhide HBv)) hwl).mono ?_
    rintro r w4 ⟨rfl, hb4⟩
    have HBv := hide (below_step (unhide HBv) hb4 (unhide HBv).size)
    have z4 : w3.heap.size ≤ w4.heap.size := (unhide HBv).size
    clear hb4
    by_cases heq : wd = [x0, x1, x2, x3, x4, x5, x6, x7]
    · have hd : decide (wd = [x0, x1, x2, x3, x4, x5, x6, x7]) = true := by simpa using heq
      rw [hd]
      have HC : Hid (readCode [x0, x1, x2, x3, x4, x5, x6, x7] = 0) := by rw [Hid, unhide HRD, if_pos ⟨unhide HC0, heq⟩]
      have HC2 : Hid (readBlk [x0, x1, x2, x3, x4, x5, x6, x7] = ⟨2, u, i, e, 0, false, 0, ⟨#[]⟩, 0, [x1, x2, x3, x4]⟩) := by rw [Hid, unhide HBK, if_pos (unhide HC)]
      clear hd heq
      go_wp2_with fail
      refine (blockOf_piece u i a1 4 c1 e _).mono ?_
      rintro r w5 ⟨rfl, hb5⟩
      have hb35 := below_step (unhide HBv) hb5 (by omega)
      have HX5 := hide ((unhide HX3).below hb35)
      have HB5 := hide (below_step (unhide HB3) hb35 (by omega))
      have z5 : w.heap.size < w5.heap.size := by have := hb35.size; omega
      have HO5 := hide (own_below (unhide HO3) hb35)
      clear hb5 hb35
      go_wp2_with (first | (refine wpList_store_part rfl 143 (.tmp 2) (.tmp 45) rfl w.heap.size 0 _ rfl rfl 143 _ (unhide HX5) (by kernel_rfl) (by simp) (by simp [Value.oneCell']) ?_; intro wZ XZ OZ))
      have XR : Hid (Box wZ w.heap.size [.int .i64 0, .int .i64 2, .int .i64 u, .int .i64 i, .int .i64 e, .int .i64 0, .bool false, .int .i64 0, .string ⟨#[]⟩, .int .i64 0, .slice a1 4 c1] 143) := XZ
      have BR : Hid (Below w.heap.size w wZ) := (unhide OZ).below (unhide HB5) (Nat.le_refl _) (fun q hq e => by omega)
      refine bodyPost_ret (results_cell_row Tryz.results82 _ wZ w.heap.size 143 _ (0, 0) _ rfl (unhide XR) Tryz.underlying143 rfl (by kernel_rfl)) rfl ⟨?_, unhide BR⟩
      rw [unhide HC, unhide HC2]
      exact ⟨_, rfl, own_base ((unhide OZ).own (unhide HO5) (fun q hq e => by have := (unhide HO5).lt q hq; omega)) (fun q hq => by have := (unhide HO5).lt q hq; omega)⟩
    · have hd : decide (wd = [x0, x1, x2, x3, x4, x5, x6, x7]) = false := by simpa using heq
      rw [hd]
      have HC : Hid (readCode [x0, x1, x2, x3, x4, x5, x6, x7] = 5) := by rw [Hid, unhide HRD, if_neg (fun hh => heq hh.2)]
      have HC2 : Hid (readBlk [x0, x1, x2, x3, x4, x5, x6, x7] = Blk.none) := by rw [Hid, unhide HBK, if_neg (by rw [unhide HC]; decide)]
      clear hd heq
      go_wp2_with (first | (refine wpList_store_part rfl 143 (.tmp 2) (.tmp 42) rfl w.heap.size 0 _ rfl rfl 143 _ ((unhide HX3).below (unhide HBv)) (by kernel_rfl) (by simp) (by simp [Value.oneCell']) ?_; intro wZ XZ OZ))
      have XR : Hid (Box wZ w.heap.size [.int .i64 5, .int .i64 0, .int .i64 0, .int .i64 0, .int .i64 0, .int .i64 0, .bool false, .int .i64 0, .string ⟨#[]⟩, .int .i64 0, .slice none 0 0] 143) := XZ
      have BR : Hid (Below w.heap.size w wZ) := (unhide OZ).below (below_step (unhide HB3) (unhide HBv) (by omega)) (Nat.le_refl _) (fun q hq e => by omega)
      refine bodyPost_ret (results_cell_row Tryz.results82 _ wZ w.heap.size 143 _ (0, 0) _ rfl (unhide XR) Tryz.underlying143 rfl (by kernel_rfl)) rfl ⟨?_, unhide BR⟩
      rw [unhide HC, unhide HC2]
      exact ⟨_, rfl, World.ownsRow_nil _ _ _ _⟩
  · have hcb : (cd != 0) = true := by simpa using hc
    have HC : Hid (readCode [x0, x1, x2, x3, x4, x5, x6, x7] = 5) := by rw [Hid, unhide HRD, if_neg (fun hh => hc hh.1)]
    have HC2 : Hid (readBlk [x0, x1, x2, x3, x4, x5, x6, x7] = Blk.none) := by rw [Hid, unhide HBK, if_neg (by rw [unhide HC]; decide)]
    clear hc
    go_wp2_with (first | (refine wpList_store_part rfl 143 (.tmp 2) (.tmp 42) rfl w.heap.size 0 _ rfl rfl 143 _ ((unhide HX3).alloc _) (by kernel_rfl) (by simp) (by simp [Value.oneCell']) ?_; intro wZ XZ OZ))
    have XR : Hid (Box wZ w.heap.size [.int .i64 5, .int .i64 0, .int .i64 0, .int .i64 0, .int .i64 0, .int .i64 0, .bool false, .int .i64 0, .string ⟨#[]⟩, .int .i64 0, .slice none 0 0] 143) := XZ
    have BR : Hid (Below w.heap.size w wZ) := (unhide OZ).below ((unhide HB3).alloc (by omega) _) (Nat.le_refl _) (fun q hq e => by omega)
    refine bodyPost_ret (results_cell_row Tryz.results82 _ wZ w.heap.size 143 _ (0, 0) _ rfl (unhide XR) Tryz.underlying143 rfl (by kernel_rfl)) rfl ⟨?_, unhide BR⟩
    rw [unhide HC, unhide HC2]
    exact ⟨_, rfl, World.ownsRow_nil _ _ _ _⟩
set_option maxRecDepth 20000 in
set_option maxHeartbeats 4000000 in
theorem implReadBlock_any (a : Option Addr) (c : Nat) (l : List Int) (hcl : l.length ≤ c) (hl : l.length ≤ 1048576) (w : World) (h : IntsAt w a l) :
    Calls Tryz.prog 82 #[.slice a l.length c] w fun r w' => BRes w.heap.size w' r (readCode l) (readBlk l) ∧ Below w.heap.size w w' := by
  obtain ⟨W, hW, hWz, HB0, HX0⟩ := boxes1 w [.int .i64 0, .int .i64 0, .int .i64 0, .int .i64 0, .int .i64 0, .int .i64 0, .bool false, .int .i64 0, .string ⟨#[]⟩, .int .i64 0, .slice none 0 0] 143
  by_cases h8 : l.length = 8
  · obtain ⟨x0, x1, x2, x3, x4, x5, x6, x7, rfl⟩ := eight h8
    clear h8
    cases hok : whOk x0
    · have HC : Hid (readCode [x0, x1, x2, x3, x4, x5, x6, x7] = 1) := by rw [Hid, readCode, if_neg (by rw [hok]; decide)]
      have HC2 : Hid (readBlk [x0, x1, x2, x3, x4, x5, x6, x7] = Blk.none) := by
        have hbk : readBlk [x0, x1, x2, x3, x4, x5, x6, x7] = if readCode [x0, x1, x2, x3, x4, x5, x6, x7] = 0 then toldBlk x0 x1 x2 x3 x4 else Blk.none := rfl
        rw [Hid, hbk, if_neg (by rw [unhide HC]; decide)]
      obtain ⟨b, o, rfl, hb, q0, -⟩ := at8 h
      have p0 : W.cell? ⟨b, o, none⟩ = some (.int .i64 x0) := ((bcell (unhide HB0)).1 _ _ hb).trans q0
      have hv : whVal x0 = .agg #[.int .i64 1, .int .i64 0, .int .i64 0, .int .i64 0, .int .i64 0] := by rw [whVal, hok]; rfl
      have HV := hide hv
      clear h hv hok
      go_enter Tryz.func82, Tryz.ntmps82
      go_wp2_with fail
      rw [← hW]
      clear hW q0
      refine (implWordHead_any x0 _).mono ?_
      rintro r w1 ⟨rfl, hb1⟩
      rw [unhide HV]
      have HX1 := hide ((unhide HX0).below hb1)
      have HB1 := hide (below_step (unhide HB0) hb1 (by omega))
      have z1 : w.heap.size < w1.heap.size := by have := hb1.size; omega
      clear hb1 HX0 HB0 p0
      go_wp2_with (first | (refine wpList_store_part rfl 143 (.tmp 2) (.tmp 17) rfl w.heap.size 0 _ rfl rfl 143 _ ((unhide HX1).alloc _) (by kernel_rfl) (by simp) (by simp [Value.oneCell']) ?_; intro wZ XZ OZ))
      have XR : Hid (Box wZ w.heap.size [.int .i64 1, .int .i64 0, .int .i64 0, .int .i64 0, .int .i64 0, .int .i64 0, .bool false, .int .i64 0, .string ⟨#[]⟩, .int .i64 0, .slice none 0 0] 143) := XZ
      have BR : Hid (Below w.heap.size w wZ) := (unhide OZ).below ((unhide HB1).alloc (by omega) _) (Nat.le_refl _) (fun q hq e => by omega)
      refine bodyPost_ret (results_cell_row Tryz.results82 _ wZ w.heap.size 143 _ (0, 0) _ rfl (unhide XR) Tryz.underlying143 rfl (by kernel_rfl)) rfl ⟨?_, unhide BR⟩
      rw [unhide HC, unhide HC2]
      exact ⟨_, rfl, World.ownsRow_nil _ _ _ _⟩
    · by_cases hk : x0 % 4 = 0
      · have HC : Hid (readCode [x0, x1, x2, x3, x4, x5, x6, x7] = 0) := by rw [Hid, readCode, if_pos hok, if_pos hk]
        have HC2 : Hid (readBlk [x0, x1, x2, x3, x4, x5, x6, x7] = Blk.none) := by
          have hbk : readBlk [x0, x1, x2, x3, x4, x5, x6, x7] = if readCode [x0, x1, x2, x3, x4, x5, x6, x7] = 0 then toldBlk x0 x1 x2 x3 x4 else Blk.none := rfl
          rw [Hid, hbk, if_pos (unhide HC)]
          unfold toldBlk; simp [hk]
        obtain ⟨b, o, rfl, hb, q0, -⟩ := at8 h
        have p0 : W.cell? ⟨b, o, none⟩ = some (.int .i64 x0) := ((bcell (unhide HB0)).1 _ _ hb).trans q0
        have hz : x0 / 16 % 1000 = 0 ∧ x0 / 4 % 4 = 0 ∧ x0 / 16000 = 0 := by
          simp only [whOk, Bool.and_eq_true, headOk, hk] at hok
          simpa [and_assoc] using hok.2
        have hv : whVal x0 = .agg #[.int .i64 0, .int .i64 0, .int .i64 0, .int .i64 0, .int .i64 0] := by rw [whVal, if_pos hok, hk, hz.1, hz.2.1, hz.2.2]
        have HV := hide hv
        clear h hv hok hk hz
        go_enter Tryz.func82, Tryz.ntmps82
        go_wp2_with fail
        rw [← hW]
        clear hW q0
        refine (implWordHead_any x0 _).mono ?_
        rintro r w1 ⟨rfl, hb1⟩
        rw [unhide HV]
        have HX1 := hide ((unhide HX0).below hb1)
        have HB1 := hide (below_step (unhide HB0) hb1 (by omega))
        have z1 : w.heap.size < w1.heap.size := by have := hb1.size; omega
        clear hb1 HX0 HB0 p0
        go_wp2_with (first | (refine wpList_store_part rfl 143 (.tmp 2) (.tmp 25) rfl w.heap.size 0 _ rfl rfl 143 _ ((unhide HX1).alloc _) (by kernel_rfl) (by simp) (by simp [Value.oneCell']) ?_; intro wZ XZ OZ))
        have XR : Hid (Box wZ w.heap.size [.int .i64 0, .int .i64 0, .int .i64 0, .int .i64 0, .int .i64 0, .int .i64 0, .bool false, .int .i64 0, .string ⟨#[]⟩, .int .i64 0, .slice none 0 0] 143) := XZ
        have BR : Hid (Below w.heap.size w wZ) := (unhide OZ).below ((unhide HB1).alloc (by omega) _) (Nat.le_refl _) (fun q hq e => by omega)
        refine bodyPost_ret (results_cell_row Tryz.results82 _ wZ w.heap.size 143 _ (0, 0) _ rfl (unhide XR) Tryz.underlying143 rfl (by kernel_rfl)) rfl ⟨?_, unhide BR⟩
        rw [unhide HC, unhide HC2]
        exact ⟨_, rfl, World.ownsRow_nil _ _ _ _⟩
      · rcases (show x0 % 4 = 1 ∨ x0 % 4 = 2 ∨ x0 % 4 = 3 by omega) with h1 | h1 | h1
        · exact readBlock_node a c hcl x0 x1 x2 x3 x4 x5 x6 x7 w h hok h1
        · exact readBlock_piece a c hcl x0 x1 x2 x3 x4 x5 x6 x7 w h hok h1
        · exact readBlock_gone a c hcl x0 x1 x2 x3 x4 x5 x6 x7 w h hok h1
  · have HC := hide (readCode_two h8)
    have HC2 := hide (readBlk_two h8)
    have hlb : ((l.length : Int) != 8) = true := by simp; omega
    clear h8 h
    have HX9 := HX0
    rw [hW] at HX9
    go_enter Tryz.func82, Tryz.ntmps82
    go_wp2_with (first | (refine wpList_store_part rfl 143 (.tmp 2) (.tmp 9) rfl w.heap.size 0 _ rfl rfl 143 _ (unhide HX9) (by kernel_rfl) (by simp) (by simp [Value.oneCell']) ?_; intro wZ XZ OZ))
    have XR : Hid (Box wZ w.heap.size [.int .i64 2, .int .i64 0, .int .i64 0, .int .i64 0, .int .i64 0, .int .i64 0, .bool false, .int .i64 0, .string ⟨#[]⟩, .int .i64 0, .slice none 0 0] 143) := XZ
    have BR : Hid (Below w.heap.size w wZ) := (unhide OZ).below (below_new _ _) (Nat.le_refl _) (fun q hq e => by omega)
    refine bodyPost_ret (results_cell_row Tryz.results82 _ wZ w.heap.size 143 _ (0, 0) _ rfl (unhide XR) Tryz.underlying143 rfl (by kernel_rfl)) rfl ⟨?_, unhide BR⟩
    rw [unhide HC, unhide HC2]
    exact ⟨_, rfl, World.ownsRow_nil _ _ _ _⟩
end Go.Proofs.YtiopofemelninaaGreat
