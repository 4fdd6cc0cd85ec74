/-
  The laws' draws of what is packed.
-/
import Derived.Test.YtaadbgebcknfkaaDraw3Nums
namespace Go.Proofs.Ytaadbgebcknfkaa
open Go.RowKit
set_option linter.unusedVariables false

theorem own_block' {g n c q : Nat} (h : (Value.slice (some ⟨g, 0, none⟩) n c).ownBlock = some q) : q = g := by cases h; rfl
theorem results_cell_tmp' {P : Program} {fn : Func} {p q : Tmp} {ty : TypeId} (h : fn.results = #[.cell p ty, .tmp q]) (tmps : Array Value) (w : World) (g : Nat) (t : TypeId) (cs : Array Value) (fr : Nat × Nat) (d : TypeDesc) (v : Value)
    (hp : tmps.getD p undef = .pointer (some ⟨g, 0, none⟩)) (hq : tmps.getD q undef = v) (hg : w.heap[g]? = some (.cells cs t fr))
    (hu : P.underlying ty = some d) (hd : (match d with | .struct _ | .array _ _ => true | _ => false) = true) (hi : (P.info? ty).map (·.size) = some cs.size) :
    (results fn tmps).run P w = .ok (.tuple #[.agg cs, v]) w := by
  have hp' : tmps[p]?.getD undef = .pointer (some ⟨g, 0, none⟩) := by simpa using hp
  have hq' : tmps[q]?.getD undef = v := by simpa using hq
  simp [results, h, hp', hq', asAddr, run_loadVar_row w g t ty cs fr d hg hu hd hi]
theorem four {l : List Int} (h : l.length = 4) : ∃ x0 x1 x2 x3, l = [x0, x1, x2, x3] := by
  match l, h with
  | [x0, x1, x2, x3], _ => exact ⟨x0, x1, x2, x3, rfl⟩

/-- A source is made: what is there then. -/
theorem source_new {w W : World} {a : Option Addr} {n c p : Nat} (hW : W = w.alloc (.cells #[.slice a n c, .int .i64 p] 132)) (h : CodeAt w a n) (hn : n ≤ 2000000) : SrcAt W 132 w.heap.size a n c p ∧ Below w.heap.size w W := by
  subst hW
  exact ⟨srcAt_wide h hn c p _, (Below.refl _ _).alloc (Nat.le_refl _) _⟩

end Go.Proofs.Ytaadbgebcknfkaa
