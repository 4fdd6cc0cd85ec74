/-
  What spec.ReadBlock answers.
-/
import Derived.Test.YtaadbgebcknfkaaSReadNode
namespace Go.Proofs.Ytaadbgebcknfkaa
open Go.RowKit
set_option linter.unusedVariables false

set_option maxRecDepth 20000 in
set_option maxHeartbeats 4000000 in
theorem l3Read_free (a : Option Addr) (c : Nat) (x0 x1 x2 x3 x4 x5 x6 x7 : Int) (w : World) (h : IntsAt w a [x0, x1, x2, x3, x4, x5, x6, x7]) (hok : whOk x0 = true) (hk : x0 % 4 = 0) :
    Calls Try.prog 45 #[.slice a 8 c] w fun r w' => TRes w.heap.size w' r (readCode [x0, x1, x2, x3, x4, x5, x6, x7]) (readBlk [x0, x1, x2, x3, x4, x5, x6, x7]) ∧ Below w.heap.size w w' := by
  have HC : Hid (readCode [x0, x1, x2, x3, x4, x5, x6, x7] = 0) := by rw [Hid, readCode, if_pos hok, if_pos hk]
  have HC2 : Hid (readBlk [x0, x1, x2, x3, x4, x5, x6, x7] = Blk.none) := by
    have hbk : readBlk [x0, x1, x2, x3, x4, x5, x6, x7] = if readCode [x0, x1, x2, x3, x4, x5, x6, x7] = 0 then toldBlk x0 x1 x2 x3 x4 else Blk.none := rfl
    rw [Hid, hbk, if_pos (unhide HC)]
    unfold toldBlk; simp [hk]
  have hz : x0 / 16 % 1000 = 0 ∧ x0 / 4 % 4 = 0 ∧ x0 / 16000 = 0 := by
    simp only [whOk, Bool.and_eq_true, headOk, hk] at hok
    simpa [and_assoc] using hok.2
  have HK := hide hk
  have HZ := hide hz
  have HOK := hide hok
  obtain ⟨W, hW, hWz, HB0, HX0⟩ := boxes1 w [.int .i64 0, .int .i64 0, .int .i64 0, .int .i64 0, .int .i64 0, .bool false, .int .i64 0, .string ⟨#[]⟩, .int .i64 0, .slice none 0 0] 31
  obtain ⟨b, o, rfl, hb, q0, -⟩ := at8 h
  have H0 := hide (h.below (unhide HB0))
  have p0 : W.cell? ⟨b, o, none⟩ = some (.int .i64 x0) := ((bcell (unhide HB0)).1 _ _ hb).trans q0
  clear h hok hk hz
  go_enter Try.func45, Try.ntmps45
  go_wp2_with fail
  rw [← hW]
  clear hW q0
  refine (l1Head_any x0 _ (unhide HOK)).mono ?_
  rintro r w1 ⟨rfl, hb1⟩
  rw [unhide HK, (unhide HZ).1, (unhide HZ).2.1, (unhide HZ).2.2]
  have HX1 := hide ((unhide HX0).below hb1)
  have HB1 := hide (below_step (unhide HB0) hb1 (by omega))
  have H1 := hide ((unhide H0).below hb1)
  have z1 : w.heap.size < w1.heap.size := by have := hb1.size; omega
  clear hb1 HX0 HB0 H0 p0
  obtain ⟨W3, hW3, hW3z, HBw, HH3, HT3, HR3⟩ := boxes3 w1 [.int .i64 0, .int .i64 0, .int .i64 0, .int .i64 0] [.int .i64 0, .int .i64 0, .int .i64 0, .int .i64 0, .int .i64 0, .bool false, .int .i64 0, .string ⟨#[]⟩, .int .i64 0, .slice none 0 0] [.int .i64 0, .slice (some ⟨b, o, none⟩) 8 c] 27 31 41
  have HX3 := hide ((unhide HX1).below (unhide HBw))
  have HB3 := hide (below_step (unhide HB1) (unhide HBw) (by omega))
  have H3 := hide ((unhide H1).below (unhide HBw))
  have z3 : w1.heap.size + 1 + 1 < W3.heap.size := by omega
  clear HX1 HB1 H1
  go_wp2_with fail
  rw [← hW3]
  clear hW3
  refine (l1Same_any (some ⟨b, o, none⟩) (some ⟨b, o, none⟩) c c [x0, x1, x2, x3, x4, x5, x6, x7] [x0, x1, x2, x3, x4, x5, x6, x7] _ (unhide H3) (unhide H3) (by simp)).mono ?_
  rintro r w5 ⟨rfl, hb5⟩
  have HX5 := hide ((unhide HX3).below hb5)
  have HT5 := hide ((unhide HT3).below hb5)
  have HB5 := hide (below_step (unhide HB3) hb5 (by omega))
  clear hb5
  have hd : decide ([x0, x1, x2, x3, x4, x5, x6, x7] = [x0, x1, x2, x3, x4, x5, x6, x7]) = true := by simp
  rw [hd]
  clear hd
  go_wp2_with (first | (refine wpList_load_part rfl 31 (.tmp 6) rfl (w1.heap.size + 1) 0 rfl 31 _ [.int .i64 0, .int .i64 0, .int .i64 0, .int .i64 0, .int .i64 0, .bool false, .int .i64 0, .string ⟨#[]⟩, .int .i64 0, .slice none 0 0] (unhide HT5) rfl _ Try.underlying31 rfl (by kernel_rfl) ?_) | (refine wpList_store_part rfl 31 (.tmp 2) (.tmp 82) rfl w.heap.size 0 _ rfl rfl 31 _ (unhide HX5) (by kernel_rfl) (by simp) (by simp [Value.oneCell']) ?_; intro wZ XZ OZ))
  have XR : Hid (Box wZ w.heap.size [.int .i64 0, .int .i64 0, .int .i64 0, .int .i64 0, .int .i64 0, .bool false, .int .i64 0, .string ⟨#[]⟩, .int .i64 0, .slice none 0 0] 31) := XZ
  have BR : Hid (Below w.heap.size w wZ) := (unhide OZ).below (unhide HB5) (Nat.le_refl _) (fun q hq e => by omega)
  refine bodyPost_ret (results_cell_tmp Try.results45 _ wZ w.heap.size 31 _ (0, 0) _ _ rfl rfl (unhide XR) Try.underlying31 rfl (by kernel_rfl)) rfl ⟨?_, unhide BR⟩
  rw [unhide HC, unhide HC2]
  exact ⟨_, rfl, World.ownsRow_nil _ _ _ _⟩

theorem l3Read_any (a : Option Addr) (c : Nat) (hc8 : 8 ≤ c) (x0 x1 x2 x3 x4 x5 x6 x7 : Int) (hx3 : -9223372036854775808 ≤ x3 ∧ x3 ≤ 9223372036854775807) (w : World) (h : IntsAt w a [x0, x1, x2, x3, x4, x5, x6, x7]) :
    Calls Try.prog 45 #[.slice a 8 c] w fun r w' => TRes w.heap.size w' r (readCode [x0, x1, x2, x3, x4, x5, x6, x7]) (readBlk [x0, x1, x2, x3, x4, x5, x6, x7]) ∧ Below w.heap.size w w' := by
  cases hok : whOk x0
  · exact l3Read_form a c x0 x1 x2 x3 x4 x5 x6 x7 w h hok
  · rcases (show x0 % 4 = 0 ∨ x0 % 4 = 1 ∨ x0 % 4 = 2 ∨ x0 % 4 = 3 by omega) with h1 | h1 | h1 | h1
    · exact l3Read_free a c x0 x1 x2 x3 x4 x5 x6 x7 w h hok h1
    · exact l3Read_node a c hc8 x0 x1 x2 x3 x4 x5 x6 x7 hx3 w h hok h1
    · exact l3Read_piece a c hc8 x0 x1 x2 x3 x4 x5 x6 x7 w h hok h1
    · exact l3Read_gone a c hc8 x0 x1 x2 x3 x4 x5 x6 x7 w h hok h1
set_option maxRecDepth 20000 in
set_option maxHeartbeats 4000000 in
theorem specReadBlock_any (a : Option Addr) (c : Nat) (l : List Int) (hcl : l.length ≤ c) (hl : l.length ≤ 1048576) (hx : ∀ x ∈ l, -9223372036854775808 ≤ x ∧ x ≤ 9223372036854775807) (w : World) (h : IntsAt w a l) :
    Calls Try.prog 10 #[.slice a l.length c] w fun r w' => BRes w.heap.size w' r (readCode l) (readBlk l) ∧ Below w.heap.size w w' := by
  obtain ⟨W, hW, hWz, HB0, HX0⟩ := boxes1 w [.int .i64 0, .int .i64 0, .int .i64 0, .int .i64 0, .int .i64 0, .int .i64 0, .bool false, .int .i64 0, .string ⟨#[]⟩, .int .i64 0, .slice none 0 0] 33
  by_cases h8 : l.length = 8
  · obtain ⟨x0, x1, x2, x3, x4, x5, x6, x7, rfl⟩ := eight h8
    have hx3 := hx x3 (by simp)
    have H := hide (h.below (unhide HB0))
    clear h8 hx h
    go_enter Try.func10, Try.ntmps10
    go_wp2_with fail
    rw [← hW]
    clear hW
    refine (l3Read_any a c hcl x0 x1 x2 x3 x4 x5 x6 x7 hx3 _ (unhide H)).mono ?_
    rintro r w1 ⟨⟨v, rfl, ho⟩, hb1⟩
    have HX1 := hide ((unhide HX0).below hb1)
    have HB1 := hide (below_step (unhide HB0) hb1 (by omega))
    have z1 : w.heap.size < w1.heap.size := by have := hb1.size; omega
    generalize hB : readBlk [x0, x1, x2, x3, x4, x5, x6, x7] = B at *
    generalize hcd : readCode [x0, x1, x2, x3, x4, x5, x6, x7] = cd at *
    have HBE := hide hB
    have HCE := hide hcd
    clear hB hcd
    obtain ⟨k, u, i, e, nu, nd, np, nn, ns, nl⟩ := B
    simp only [blkV] at *
    obtain ⟨a1, c1, rfl, -, -, -, -⟩ := intsAt_own ho
    have HO := hide ho
    clear ho hb1 HX0 HB0 H
    go_wp2_with (first | (refine wpList_store_part rfl 33 (.tmp 2) (.tmp 16) rfl w.heap.size 0 _ rfl rfl 33 _ ((unhide HX1).alloc _) (by kernel_rfl) (by simp) (by simp [Value.oneCell']) ?_; intro wZ XZ OZ))
    have XR : Hid (Box wZ w.heap.size [.int .i64 cd, .int .i64 k, .int .i64 u, .int .i64 i, .int .i64 e, .int .i64 nu, .bool nd, .int .i64 np, .string nn, .int .i64 ns, .slice a1 nl.length c1] 33) := XZ
    have BR : Hid (Below w.heap.size w wZ) := (unhide OZ).below ((unhide HB1).alloc (by omega) _) (Nat.le_refl _) (fun q hq e => by omega)
    refine bodyPost_ret (results_cell_row Try.results10 _ wZ w.heap.size 33 _ (0, 0) _ rfl (unhide XR) Try.underlying33 rfl (by kernel_rfl)) rfl ⟨?_, unhide BR⟩
    rw [unhide HBE, unhide HCE]
    exact ⟨_, rfl, own_base ((unhide OZ).own (World.ownsRow.alloc (unhide HO) _) (fun q hq e => by have := (unhide HO).lt q hq; omega)) (fun q hq => by have := (unhide HO).lt q hq; omega)⟩
  · have HC := hide (readCode_two h8)
    have HC2 := hide (readBlk_two h8)
    have hlb : ((l.length : Int) != 8) = true := by simp; omega
    clear h8 h
    have HX9 := HX0
    rw [hW] at HX9
    go_enter Try.func10, Try.ntmps10
    go_wp2_with (first | (refine wpList_store_part rfl 33 (.tmp 2) (.tmp 8) rfl w.heap.size 0 _ rfl rfl 33 _ (unhide HX9) (by kernel_rfl) (by simp) (by simp [Value.oneCell']) ?_; intro wZ XZ OZ))
    have XR : Hid (Box wZ w.heap.size [.int .i64 2, .int .i64 0, .int .i64 0, .int .i64 0, .int .i64 0, .int .i64 0, .bool false, .int .i64 0, .string ⟨#[]⟩, .int .i64 0, .slice none 0 0] 33) := XZ
    have BR : Hid (Below w.heap.size w wZ) := (unhide OZ).below (below_new _ _) (Nat.le_refl _) (fun q hq e => by omega)
    refine bodyPost_ret (results_cell_row Try.results10 _ wZ w.heap.size 33 _ (0, 0) _ rfl (unhide XR) Try.underlying33 rfl (by kernel_rfl)) rfl ⟨?_, unhide BR⟩
    rw [unhide HC, unhide HC2]
    exact ⟨_, rfl, World.ownsRow_nil _ _ _ _⟩
end Go.Proofs.Ytaadbgebcknfkaa
