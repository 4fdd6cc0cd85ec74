/-
  One cell of a box: stored in one step, the world named.
-/
import Derived.Test.YtaadbgebcknfkaaWideBox
namespace Go.Proofs.Ytaadbgebcknfkaa
open Go.RowKit
set_option linter.unusedVariables false

theorem run_storeVar_cell {P : Program} (w : World) (g o : Nat) (t ty : TypeId) (old : List Value) (v : Value) (hg : Box w g old t) (hi : (P.info? ty).map (·.size) = some 1) (hfit : o + 1 ≤ old.length) (hc : v.cells = #[v]) (h1 : v.oneCell' = true) :
    (storeVar ty ⟨g, o, none⟩ v).run P w = .ok () (w.setRow g (old.take o ++ [v] ++ old.drop (o + 1)).toArray) := by
  have := run_storeCells_at P g o t [v] 0 old.toArray w hg (by simpa using hfit) (fun u hu => by simp at hu; rw [hu]; exact h1)
  cases hq : P.info? ty with
  | none => simp [hq] at hi
  | some i =>
    have hs : 1 = i.size := by simp [hq] at hi; omega
    simp only [Nat.add_zero] at this
    simp [storeVar, sizeOf, typeInfo, hq, hc, ← hs, this]

/-- A cell is stored into a part of a box. -/
theorem wpList_store_cell {P : Program} {ops : Array Oper} {rest : List Oper} {op : Oper} {a : Act} {w : World} {Q : Exit → Act → World → Prop} (hgd : op.guard = none) (ty : TypeId) (x y : Operand) (ho : op.op = .store ty x y)
    (g o : Nat) (v : Value) (hx : a.eval x = .pointer (some ⟨g, o, none⟩)) (hy : a.eval y = v) (t : TypeId) (old : List Value) (hg : Box w g old t)
    (hi : (P.info? ty).map (·.size) = some 1) (hfit : o + 1 ≤ old.length) (hc : v.cells = #[v]) (h1 : v.oneCell' = true)
    (h : ∀ w', Hid (Box w' g (old.take o ++ [v] ++ old.drop (o + 1)) t) → Hid (Out (fun q => q = g) w w') → wpList P ops Q rest (a.put op.dst undef) w') : wpList P ops Q (op :: rest) a w := by
  refine wpList_plain hgd fun K hK => ?_
  unfold Oper.wp execOp
  simp only [ho, hx, hy, Instr.storeAt, Instr.sureAddr, Sem.run_bind, Sem.run_pure, Result.andThen_ok, run_storeVar_cell w g o t ty old v hg hi hfit hc h1]
  refine hK _ _ (h _ ?_ ?_)
  · exact setRow_heap w g _ _ t (0, 0) hg
  · exact ⟨rfl, rfl, rfl, by simp [World.setRow], fun q _ hq => setRow_other w g q _ hq⟩
end Go.Proofs.Ytaadbgebcknfkaa
