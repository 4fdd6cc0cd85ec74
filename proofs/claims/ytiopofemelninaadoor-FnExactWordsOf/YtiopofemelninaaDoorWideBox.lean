/-
  Wide structs in boxes: stored and loaded in one step.
-/
import Derived.Test.YtiopofemelninaaDoorRowMath
import Derived.WalkKit
import Derived.Laws.CopyRow
import Derived.Laws.Rows
import Derived.Deep.MidRow
namespace Go.Proofs.YtiopofemelninaaDoor
open Go.RowKit

theorem run_storeVar_part {P : Program} (w : World) (g o : Nat) (t ty : TypeId) (old : List Value) (cells : Array Value) (hg : Box w g old t) (hi : (P.info? ty).map (·.size) = some cells.size) (hfit : o + cells.size ≤ old.length) (h1 : cells.all (·.oneCell') = true) :
    (storeVar ty ⟨g, o, none⟩ (.agg cells)).run P w = .ok () (w.setRow g (old.take o ++ cells.toList ++ old.drop (o + cells.size)).toArray) := by
  have := run_storeCells_at P g o t cells.toList 0 old.toArray w hg (by simpa using hfit) (fun v hv => (Array.all_eq_true_iff_forall_mem.1 h1) v (by simpa using hv))
  cases hq : P.info? ty with
  | none => simp [hq] at hi
  | some i =>
    have hs : cells.size = i.size := by simp [hq] at hi; omega
    simp only [Nat.add_zero, Array.length_toList] at this
    simp [storeVar, sizeOf, typeInfo, hq, Value.cells, hs, this]

/-- A struct is stored into a part of a box. -/
theorem wpList_store_part {P : Program} {ops : Array Oper} {rest : List Oper} {op : Oper} {a : Act} {w : World} {Q : Exit → Act → World → Prop} (hgd : op.guard = none) (ty : TypeId) (x y : Operand) (ho : op.op = .store ty x y)
    (g o : Nat) (cells : Array Value) (hx : a.eval x = .pointer (some ⟨g, o, none⟩)) (hy : a.eval y = .agg cells) (t : TypeId) (old : List Value) (hg : Box w g old t)
    (hi : (P.info? ty).map (·.size) = some cells.size) (hfit : o + cells.size ≤ old.length) (h1 : cells.all (·.oneCell') = true)
    (h : ∀ w', Hid (Box w' g (old.take o ++ cells.toList ++ old.drop (o + cells.size)) t) → Hid (Out (fun q => q = g) w w') → wpList P ops Q rest (a.put op.dst undef) w') : wpList P ops Q (op :: rest) a w := by
  refine wpList_plain hgd fun K hK => ?_
  unfold Oper.wp execOp
  simp only [ho, hx, hy, Instr.storeAt, Instr.sureAddr, Sem.run_bind, Sem.run_pure, Result.andThen_ok, run_storeVar_part w g o t ty old cells hg hi hfit h1]
  refine hK _ _ (h _ ?_ ?_)
  · exact setRow_heap w g _ _ t (0, 0) hg
  · exact ⟨rfl, rfl, rfl, by simp [World.setRow], fun q _ hq => setRow_other w g q _ hq⟩

/-- A struct is loaded out of a part of a box. -/
theorem wpList_load_part {P : Program} {ops : Array Oper} {rest : List Oper} {op : Oper} {a : Act} {w : World} {Q : Exit → Act → World → Prop} (hgd : op.guard = none) (ty : TypeId) (x : Operand) (ho : op.op = .load ty x)
    (g o : Nat) (hx : a.eval x = .pointer (some ⟨g, o, none⟩)) (t : TypeId) (cs part : List Value) (hg : Box w g cs t) (hp : (cs.drop o).take part.length = part) (d : TypeDesc)
    (hu : P.underlying ty = some d) (hd : d.isRow = true) (hi : (P.info? ty).map (·.size) = some part.length)
    (h : wpList P ops Q rest (a.put op.dst (.agg part.toArray)) w) : wpList P ops Q (op :: rest) a w := by
  refine wpList_load_mid hgd ty x ho g o hx part d (fun j v hv => ?_) hu hd hi h
  have hj := (List.getElem?_eq_some_iff.1 hv).1
  rw [hg.cell (o + j), ← hv]
  conv => rhs; rw [← hp]
  rw [List.getElem?_take_of_lt hj, List.getElem?_drop]
end Go.Proofs.YtiopofemelninaaDoor
