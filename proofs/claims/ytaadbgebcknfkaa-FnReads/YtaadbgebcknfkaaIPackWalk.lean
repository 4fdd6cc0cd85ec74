/-
  What impl.PackGone, PackNode and PackData answer.
-/
import Derived.Test.YtaadbgebcknfkaaPackPiece
namespace Go.Proofs.Ytaadbgebcknfkaa
open Go.RowKit

set_option maxRecDepth 20000 in
set_option maxHeartbeats 2000000 in
theorem implPackGone_any (u e : Int) (w : World) :
    Calls Try.prog 16 #[.int .i64 u, .int .i64 e] w fun r w' => WRes w.heap.size w' r (goneCode u e) (goneWords u e) ∧ Below w.heap.size w w' := by
  obtain ⟨W, hW, hWz, HB0, HX0⟩ := boxes1 w [.int .i64 0, .slice none 0 0] 41
  go_enter Try.func16, Try.ntmps16
  go_wp2_with fail
  rw [← hW]
  clear hW
  refine (packedGone_any u e _).mono ?_
  rintro r w1 ⟨⟨v, rfl, ho⟩, hb1⟩
  have HX1 := hide ((unhide HX0).below hb1)
  have HB1 := hide (below_step (unhide HB0) hb1 (by omega))
  obtain ⟨a1, c1, rfl, -, -, -, -⟩ := intsAt_own ho
  have hz1 : w.heap.size < w1.heap.size := by have := hb1.size; omega
  have HO1 := hide ho
  clear hb1 ho HX0 HB0
  have q0 := (unhide HX1).cell 0
  have q1 := (unhide HX1).cell 1
  have f0 := (unhide HX1).frozen 0
  have f1 := (unhide HX1).frozen 1
  simp only [List.getElem?_cons_zero, List.getElem?_cons_succ] at q0 q1
  generalize hcd : goneCode u e = cd at *
  generalize hwd : goneWords u e = wd at *
  have HCD := hide hcd
  have HWD := hide hwd
  clear hcd hwd
  go_wp2_with fail
  generalize hU : (w1.setCell ⟨w.heap.size, 0, none⟩ (.int .i64 cd)).setCell ⟨w.heap.size, 1, none⟩ (.slice a1 wd.length c1) = U at *
  obtain ⟨HXU, HOU⟩ := store2' (unhide HX1) hU
  clear hU
  have p0 := (unhide HXU).cell 0
  have p1 := (unhide HXU).cell 1
  simp only [List.getElem?_cons_zero, List.getElem?_cons_succ] at p0 p1
  refine bodyPost_ret (v := .agg #[.int .i64 cd, .slice a1 wd.length c1]) (by simp [results, Try.results16, go_sem, p0, p1]) rfl ⟨?_, ?_⟩
  · rw [unhide HCD, unhide HWD]
    exact ⟨_, rfl, (unhide HOU).own (own_base (unhide HO1) (fun q hq => by have := (unhide HO1).lt q hq; omega)) (fun q hq => by have := (unhide HO1).lt q hq; omega)⟩
  · exact (unhide HOU).below (unhide HB1) (Nat.le_refl _) (fun q hq hF => by omega)
set_option maxRecDepth 20000 in
set_option maxHeartbeats 2000000 in
theorem implPackNode_any (u : Int) (d : Bool) (p : Int) (nm : ByteArray) (s e : Int) (w : World) (hs : nm.size ≤ maxLen) :
    Calls Try.prog 14 #[.agg #[.int .i64 u, .bool d, .int .i64 p, .string nm, .int .i64 s], .int .i64 e] w fun r w' => WRes w.heap.size w' r (nodePCode u d p nm.data.toList s e) (nodeWords u d p nm.data.toList s e) ∧ Below w.heap.size w w' := by
  obtain ⟨W, hW, hWz, HB0, -, HX0⟩ := boxes2 w [.int .i64 u, .bool d, .int .i64 p, .string nm, .int .i64 s] [.int .i64 0, .slice none 0 0] 29 41
  go_enter Try.func14, Try.ntmps14
  go_wp2_with fail
  rw [← hW]
  clear hW
  refine (packedNode_any u d p nm s e _ hs).mono ?_
  rintro r w1 ⟨⟨v, rfl, ho⟩, hb1⟩
  have HX1 := hide ((unhide HX0).below hb1)
  have HB1 := hide (below_step (unhide HB0) hb1 (by omega))
  obtain ⟨a1, c1, rfl, -, -, -, -⟩ := intsAt_own ho
  have hz1 : w.heap.size + 1 < w1.heap.size := by have := hb1.size; omega
  have HO1 := hide ho
  clear hb1 ho HX0 HB0
  have q0 := (unhide HX1).cell 0
  have q1 := (unhide HX1).cell 1
  have f0 := (unhide HX1).frozen 0
  have f1 := (unhide HX1).frozen 1
  simp only [List.getElem?_cons_zero, List.getElem?_cons_succ] at q0 q1
  generalize hcd : nodePCode u d p nm.data.toList s e = cd at *
  generalize hwd : nodeWords u d p nm.data.toList s e = wd at *
  have HCD := hide hcd
  have HWD := hide hwd
  clear hcd hwd
  go_wp2_with fail
  generalize hU : (w1.setCell ⟨w.heap.size + 1, 0, none⟩ (.int .i64 cd)).setCell ⟨w.heap.size + 1, 1, none⟩ (.slice a1 wd.length c1) = U at *
  obtain ⟨HXU, HOU⟩ := store2' (unhide HX1) hU
  clear hU
  have p0 := (unhide HXU).cell 0
  have p1 := (unhide HXU).cell 1
  simp only [List.getElem?_cons_zero, List.getElem?_cons_succ] at p0 p1
  refine bodyPost_ret (v := .agg #[.int .i64 cd, .slice a1 wd.length c1]) (by simp [results, Try.results14, go_sem, p0, p1]) rfl ⟨?_, ?_⟩
  · rw [unhide HCD, unhide HWD]
    exact ⟨_, rfl, (unhide HOU).own (own_base (unhide HO1) (fun q hq => by have := (unhide HO1).lt q hq; omega)) (fun q hq => by have := (unhide HO1).lt q hq; omega)⟩
  · exact (unhide HOU).below (unhide HB1) (Nat.le_refl _) (fun q hq hF => by omega)
set_option maxRecDepth 20000 in
set_option maxHeartbeats 2000000 in
theorem implPackData_any (u i : Int) (a : Option Addr) (c : Nat) (l : List Int) (e : Int) (w : World) (h : IntsAt w a l) (hl : l.length ≤ 1048576) :
    Calls Try.prog 15 #[.int .i64 u, .int .i64 i, .slice a l.length c, .int .i64 e] w fun r w' => WRes w.heap.size w' r (dataCode u i l e) (dataWords u i l e) ∧ Below w.heap.size w w' := by
  obtain ⟨W, hW, hWz, HB0, HX0⟩ := boxes1 w [.int .i64 0, .slice none 0 0] 41
  have H := hide h
  clear h
  go_enter Try.func15, Try.ntmps15
  go_wp2_with fail
  rw [← hW]
  clear hW
  refine (packedPiece_any u i a c l e _ ((unhide H).below (unhide HB0)) hl).mono ?_
  rintro r w1 ⟨⟨v, rfl, ho⟩, hb1⟩
  have HX1 := hide ((unhide HX0).below hb1)
  have HB1 := hide (below_step (unhide HB0) hb1 (by omega))
  obtain ⟨a1, c1, rfl, -, -, -, -⟩ := intsAt_own ho
  have hz1 : w.heap.size < w1.heap.size := by have := hb1.size; omega
  have HO1 := hide ho
  clear hb1 ho HX0 HB0
  have q0 := (unhide HX1).cell 0
  have q1 := (unhide HX1).cell 1
  have f0 := (unhide HX1).frozen 0
  have f1 := (unhide HX1).frozen 1
  simp only [List.getElem?_cons_zero, List.getElem?_cons_succ] at q0 q1
  generalize hcd : dataCode u i l e = cd at *
  generalize hwd : dataWords u i l e = wd at *
  have HCD := hide hcd
  have HWD := hide hwd
  clear hcd hwd
  go_wp2_with fail
  generalize hU : (w1.setCell ⟨w.heap.size, 0, none⟩ (.int .i64 cd)).setCell ⟨w.heap.size, 1, none⟩ (.slice a1 wd.length c1) = U at *
  obtain ⟨HXU, HOU⟩ := store2' (unhide HX1) hU
  clear hU
  have p0 := (unhide HXU).cell 0
  have p1 := (unhide HXU).cell 1
  simp only [List.getElem?_cons_zero, List.getElem?_cons_succ] at p0 p1
  refine bodyPost_ret (v := .agg #[.int .i64 cd, .slice a1 wd.length c1]) (by simp [results, Try.results15, go_sem, p0, p1]) rfl ⟨?_, ?_⟩
  · rw [unhide HCD, unhide HWD]
    exact ⟨_, rfl, (unhide HOU).own (own_base (unhide HO1) (fun q hq => by have := (unhide HO1).lt q hq; omega)) (fun q hq => by have := (unhide HO1).lt q hq; omega)⟩
  · exact (unhide HOU).below (unhide HB1) (Nat.le_refl _) (fun q hq hF => by omega)
end Go.Proofs.Ytaadbgebcknfkaa
