/-
  The laws' draws of devices: one that may be wrong, and a line.
-/
import Derived.Test.YtdnfadbkpajloaaDraw2Bent
namespace Go.Proofs.Ytdnfadbkpajloaa
open Go.RowKit
set_option linter.unusedVariables false

theorem resCT {P : Program} {fn : Func} {p q : Tmp} {ty : TypeId} (h : fn.results = #[.cell p ty, .tmp q]) (tmps : Array Value) (w : World) (g : Nat) (t : TypeId) (cs : Array Value) (fr : Nat × Nat) (d : TypeDesc) (v : Value)
    (hp : tmps.getD p undef = .pointer (some ⟨g, 0, none⟩)) (hq : tmps.getD q undef = v) (hg : w.heap[g]? = some (.cells cs t fr))
    (hu : P.underlying ty = some d) (hd : (match d with | .struct _ | .array _ _ => true | _ => false) = true) (hi : (P.info? ty).map (·.size) = some cs.size) :
    (results fn tmps).run P w = .ok (.tuple #[.agg cs, v]) w := by
  have hp' : tmps[p]?.getD undef = .pointer (some ⟨g, 0, none⟩) := by simpa using hp
  have hq' : tmps[q]?.getD undef = v := by simpa using hq
  simp [results, h, hp', hq', asAddr, run_loadVar_row w g t ty cs fr d hg hu hd hi]
theorem sourceTo {w W : World} {a : Option Addr} {n c p : Nat} (hW : W = w.alloc (.cells #[.slice a n c, .int .i64 p] 193)) (h : CodeAt w a n) (hn : n ≤ 1048576) : SrcTo W w.heap.size a n c p ∧ Below w.heap.size w W := by
  subst hW
  exact ⟨⟨p, Nat.le_refl _, srcAt_new h hn c p _⟩, (Below.refl _ _).alloc (Nat.le_refl _) _⟩

end Go.Proofs.Ytdnfadbkpajloaa
