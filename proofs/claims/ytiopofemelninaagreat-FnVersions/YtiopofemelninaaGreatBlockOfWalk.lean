/-
  What impl.blockOf answers of each content.
-/
import Derived.Test.YtiopofemelninaaGreatReadWalk
import Derived.Test.YtiopofemelninaaGreatWideBox
namespace Go.Proofs.YtiopofemelninaaGreat
open Go.RowKit
set_option linter.unusedVariables false

set_option maxRecDepth 20000 in
set_option maxHeartbeats 4000000 in
theorem blockOf_gone (u e : Int) (w : World) :
    Calls Tryz.prog 109 #[.iface 201 (.agg #[.int .i64 u, .int .i64 e])] w fun r w' => r = .returned (.agg #[.int .i64 3, .int .i64 u, .int .i64 0, .int .i64 e, .int .i64 0, .bool false, .int .i64 0, .string ⟨#[]⟩, .int .i64 0, .slice none 0 0]) ∧ Below w.heap.size w w' := by
  obtain ⟨W, hW, hWz, HB0, HX0⟩ := boxes1 w [.int .i64 0, .int .i64 0, .int .i64 0, .int .i64 0, .int .i64 0, .bool false, .int .i64 0, .string ⟨#[]⟩, .int .i64 0, .slice none 0 0] 44
  go_enter Tryz.func109, Tryz.ntmps109
  go_wp2_with fail
  rw [← hW]
  clear hW
  refine (goneHead_any u e _).mono ?_
  rintro r w1 ⟨rfl, hb1⟩
  have HX1 := hide ((unhide HX0).below hb1)
  have HB1 := hide (below_step (unhide HB0) hb1 (by omega))
  have z1 : w.heap.size < w1.heap.size := by have := hb1.size; omega
  clear hb1 HX0 HB0
  have a0 : ∀ w : World, (Instr.typeAssert (.iface 201 (.agg #[.int .i64 u, .int .i64 e])) 170 197 true).run Tryz.prog w = .ok (.tuple #[.agg #[.int .i64 0, .bool false, .int .i64 0, .string ByteArray.empty, .int .i64 0, .int .i64 0], .bool false]) w := fun w => by kernel_rfl
  have a1 : ∀ w : World, (Instr.typeAssert (.iface 201 (.agg #[.int .i64 u, .int .i64 e])) 170 199 true).run Tryz.prog w = .ok (.tuple #[.agg #[.int .i64 0, .int .i64 0, .slice none 0 0, .int .i64 0], .bool false]) w := fun w => by kernel_rfl
  go_wp2_with (first
    | (refine wpList_store_part rfl 44 (.tmp 2) (.tmp 22) rfl w.heap.size 0 _ rfl rfl 44 _ ((unhide HX1).alloc _) (by kernel_rfl) (by simp) (by simp [Value.oneCell']) ?_; intro w3 X3 O3))
  have XR : Hid (Box w3 w.heap.size [.int .i64 3, .int .i64 u, .int .i64 0, .int .i64 e, .int .i64 0, .bool false, .int .i64 0, .string ⟨#[]⟩, .int .i64 0, .slice none 0 0] 44) := X3
  have BR : Hid (Below w.heap.size w w3) := (unhide O3).below ((unhide HB1).alloc (by omega) _) (Nat.le_refl _) (fun q hq e => by omega)
  clear X3 O3
  refine bodyPost_ret (results_cell_row Tryz.results109 _ w3 w.heap.size 44 _ (0, 0) _ rfl (unhide XR) Tryz.underlying44 rfl (by kernel_rfl)) rfl ⟨rfl, unhide BR⟩
set_option maxRecDepth 20000 in
set_option maxHeartbeats 4000000 in
theorem blockOf_node (u : Int) (d : Bool) (p : Int) (nm : ByteArray) (s e : Int) (w : World) :
    Calls Tryz.prog 109 #[.iface 197 (.agg #[.int .i64 u, .bool d, .int .i64 p, .string nm, .int .i64 s, .int .i64 e])] w fun r w' => r = .returned (.agg #[.int .i64 1, .int .i64 u, .int .i64 0, .int .i64 e, .int .i64 u, .bool d, .int .i64 p, .string nm, .int .i64 s, .slice none 0 0]) ∧ Below w.heap.size w w' := by
  obtain ⟨W, hW, hWz, HB0, HX0⟩ := boxes1 w [.int .i64 0, .int .i64 0, .int .i64 0, .int .i64 0, .int .i64 0, .bool false, .int .i64 0, .string ⟨#[]⟩, .int .i64 0, .slice none 0 0] 44
  go_enter Tryz.func109, Tryz.ntmps109
  go_wp2_with fail
  rw [← hW]
  clear hW
  refine (nodeHead_any u d p nm s e _).mono ?_
  rintro r w1 ⟨rfl, hb1⟩
  have HX1 := hide ((unhide HX0).below hb1)
  have HB1 := hide (below_step (unhide HB0) hb1 (by omega))
  have z1 : w.heap.size < w1.heap.size := by have := hb1.size; omega
  clear hb1 HX0 HB0
  have a0 : ∀ w : World, (Instr.typeAssert (.iface 197 (.agg #[.int .i64 u, .bool d, .int .i64 p, .string nm, .int .i64 s, .int .i64 e])) 170 197 true).run Tryz.prog w = .ok (.tuple #[.agg #[.int .i64 u, .bool d, .int .i64 p, .string nm, .int .i64 s, .int .i64 e], .bool true]) w := fun w => by kernel_rfl
  go_wp2_with (first
    | (refine wpList_store_part rfl 44 (.tmp 2) (.tmp 22) rfl w.heap.size 0 _ rfl rfl 44 _ (((unhide HX1).alloc _).alloc _) (by kernel_rfl) (by simp) (by simp [Value.oneCell']) ?_; intro w3 X3 O3))
  have XR : Hid (Box w3 w.heap.size [.int .i64 1, .int .i64 u, .int .i64 0, .int .i64 e, .int .i64 u, .bool d, .int .i64 p, .string nm, .int .i64 s, .slice none 0 0] 44) := X3
  have BR : Hid (Below w.heap.size w w3) := (unhide O3).below (((unhide HB1).alloc (by omega) _).alloc (by simp; omega) _) (Nat.le_refl _) (fun q hq e => by omega)
  clear X3 O3
  refine bodyPost_ret (results_cell_row Tryz.results109 _ w3 w.heap.size 44 _ (0, 0) _ rfl (unhide XR) Tryz.underlying44 rfl (by kernel_rfl)) rfl ⟨rfl, unhide BR⟩
set_option maxRecDepth 20000 in
set_option maxHeartbeats 4000000 in
theorem blockOf_piece (u i : Int) (a : Option Addr) (n c : Nat) (e : Int) (w : World) :
    Calls Tryz.prog 109 #[.iface 199 (.agg #[.int .i64 u, .int .i64 i, .slice a n c, .int .i64 e])] w fun r w' => r = .returned (.agg #[.int .i64 2, .int .i64 u, .int .i64 i, .int .i64 e, .int .i64 0, .bool false, .int .i64 0, .string ⟨#[]⟩, .int .i64 0, .slice a n c]) ∧ Below w.heap.size w w' := by
  obtain ⟨W, hW, hWz, HB0, HX0⟩ := boxes1 w [.int .i64 0, .int .i64 0, .int .i64 0, .int .i64 0, .int .i64 0, .bool false, .int .i64 0, .string ⟨#[]⟩, .int .i64 0, .slice none 0 0] 44
  go_enter Tryz.func109, Tryz.ntmps109
  go_wp2_with fail
  rw [← hW]
  clear hW
  refine (pieceHead_any u i _ e _).mono ?_
  rintro r w1 ⟨rfl, hb1⟩
  have HX1 := hide ((unhide HX0).below hb1)
  have HB1 := hide (below_step (unhide HB0) hb1 (by omega))
  have z1 : w.heap.size < w1.heap.size := by have := hb1.size; omega
  clear hb1 HX0 HB0
  have a0 : ∀ w : World, (Instr.typeAssert (.iface 199 (.agg #[.int .i64 u, .int .i64 i, .slice a n c, .int .i64 e])) 170 197 true).run Tryz.prog w = .ok (.tuple #[.agg #[.int .i64 0, .bool false, .int .i64 0, .string ByteArray.empty, .int .i64 0, .int .i64 0], .bool false]) w := fun w => by kernel_rfl
  have a1 : ∀ w : World, (Instr.typeAssert (.iface 199 (.agg #[.int .i64 u, .int .i64 i, .slice a n c, .int .i64 e])) 170 199 true).run Tryz.prog w = .ok (.tuple #[.agg #[.int .i64 u, .int .i64 i, .slice a n c, .int .i64 e], .bool true]) w := fun w => by kernel_rfl
  go_wp2_with (first
    | (refine wpList_store_part rfl 44 (.tmp 2) (.tmp 22) rfl w.heap.size 0 _ rfl rfl 44 _ (((unhide HX1).alloc _).alloc _) (by kernel_rfl) (by simp) (by simp [Value.oneCell']) ?_; intro w3 X3 O3))
  have XR : Hid (Box w3 w.heap.size [.int .i64 2, .int .i64 u, .int .i64 i, .int .i64 e, .int .i64 0, .bool false, .int .i64 0, .string ⟨#[]⟩, .int .i64 0, .slice a n c] 44) := X3
  have BR : Hid (Below w.heap.size w w3) := (unhide O3).below (((unhide HB1).alloc (by omega) _).alloc (by simp; omega) _) (Nat.le_refl _) (fun q hq e => by omega)
  clear X3 O3
  refine bodyPost_ret (results_cell_row Tryz.results109 _ w3 w.heap.size 44 _ (0, 0) _ rfl (unhide XR) Tryz.underlying44 rfl (by kernel_rfl)) rfl ⟨rfl, unhide BR⟩
end Go.Proofs.YtiopofemelninaaGreat
