/-
  No cell of these rows narrows 'for every input' (looked for: loops, veiled, ifaces, maps, wideKeys, modest, calm, conditions, laid).
  DERIVED. THE GIVEN ROWS OF THIS SEAT. 3 by the template 'for every input the law returns true; each argument reads behind the call as it read before'; 0 by the template 'total and deterministic' (their statements: YtgooodacneknkaaTotals.lean).
  GIVEN WITH THE SEED: the statements are not yours to turn. If you find one false, say at which input.
  Laid BY PROGRAM, IN A SANDBOX (cutbox-rows.mjs): the forced cells as the released guide's own fill.sh prints them over the translation 0f4b144935c23d7e… (all of the seat's roots in one cut). By AI agents, Wed Nov 11 2026. No macro, syntax, notation, axiom, sorry.
-/
import Derived.Test.YtgooodacneknkaaChecked
import GoSem.Claim
import GoSem.ClaimJoined
import GoSem.ClaimMapViews
import Derived.JoinedTies
import Derived.KernelRfl
namespace Go.Proofs.Ytgooodacneknkaa
/- THE CELL 'sum', in the pinned program and in every row, IS THE sha256 OF THE DUMP (.gsa) THAT YtgooodacneknkaaProg.lean LOADS. Nothing in Lean hashes anything: it is a label: what it is worth is what the hold of that sum in a sandbox is worth. -/
noncomputable def Try.pinned : Pinned := { name := "ytgooodacneknkaa", sum := "0f4b144935c23d7e93cd1fbae4e21fd3b3c6860acebda876a6c0648d804f2b5b", checked := Try.checked }
namespace Rows
def none {H : Type} : Left H := { results := [], args := [] }

/-- 'laws.FnExactSameItems': WHATEVER THE INPUT: true; the input reads as it did. -/
def fnExactSameItemsSpec : ChangeSpec := { name := "fnExactSameItems", fn := fun _ => fun
  | [d1, d2] => { results := [.lit (.bool true)], args := [d1, d2] }
  | _ => none }
def fnExactSameItemsRow : OpenClaim := { program := "ytgooodacneknkaa", sum := "0f4b144935c23d7e93cd1fbae4e21fd3b3c6860acebda876a6c0648d804f2b5b", func := "loop.example/g00691/laws.FnExactSameItems", spec := "fnExactSameItems", unfollowed := true, recurses := true, apart := false }
def FnExactSameItemsSaid : Prop := fnExactSameItemsRow.holds Try.pinned (OpenSpec.ofChange fnExactSameItemsSpec)

/-- ITS FALSE NEIGHBOUR: 'it returns false'. Refute it at one input. -/
def fnExactSameItemsWrong : ChangeSpec := { name := "fnExactSameItems", fn := fun _ => fun
  | [d1, d2] => { results := [.lit (.bool false)], args := [d1, d2] }
  | _ => none }
def FnExactSameItemsWrongFalsely : Prop := fnExactSameItemsRow.holds Try.pinned (OpenSpec.ofChange fnExactSameItemsWrong)

/-- 'laws.FnExactClockTo': WHATEVER THE INPUT: true; the input reads as it did. -/
def fnExactClockToSpec : ChangeSpec := { name := "fnExactClockTo", fn := fun _ => fun
  | [d1, d2] => { results := [.lit (.bool true)], args := [d1, d2] }
  | _ => none }
def fnExactClockToRow : OpenClaim := { program := "ytgooodacneknkaa", sum := "0f4b144935c23d7e93cd1fbae4e21fd3b3c6860acebda876a6c0648d804f2b5b", func := "loop.example/g00691/laws.FnExactClockTo", spec := "fnExactClockTo", apart := false }
def FnExactClockToSaid : Prop := fnExactClockToRow.holds Try.pinned (OpenSpec.ofChange fnExactClockToSpec)

/-- ITS FALSE NEIGHBOUR: 'it returns false'. Refute it at one input. -/
def fnExactClockToWrong : ChangeSpec := { name := "fnExactClockTo", fn := fun _ => fun
  | [d1, d2] => { results := [.lit (.bool false)], args := [d1, d2] }
  | _ => none }
def FnExactClockToWrongFalsely : Prop := fnExactClockToRow.holds Try.pinned (OpenSpec.ofChange fnExactClockToWrong)

/-- 'laws.FnExactSameChanges': WHATEVER THE INPUT: true; the input reads as it did. -/
def fnExactSameChangesSpec : ChangeSpec := { name := "fnExactSameChanges", fn := fun _ => fun
  | [d1, d2] => { results := [.lit (.bool true)], args := [d1, d2] }
  | _ => none }
def fnExactSameChangesRow : OpenClaim := { program := "ytgooodacneknkaa", sum := "0f4b144935c23d7e93cd1fbae4e21fd3b3c6860acebda876a6c0648d804f2b5b", func := "loop.example/g00691/laws.FnExactSameChanges", spec := "fnExactSameChanges", unfollowed := true, recurses := true, apart := false }
def FnExactSameChangesSaid : Prop := fnExactSameChangesRow.holds Try.pinned (OpenSpec.ofChange fnExactSameChangesSpec)

/-- ITS FALSE NEIGHBOUR: 'it returns false'. Refute it at one input. -/
def fnExactSameChangesWrong : ChangeSpec := { name := "fnExactSameChanges", fn := fun _ => fun
  | [d1, d2] => { results := [.lit (.bool false)], args := [d1, d2] }
  | _ => none }
def FnExactSameChangesWrongFalsely : Prop := fnExactSameChangesRow.holds Try.pinned (OpenSpec.ofChange fnExactSameChangesWrong)

/- THE SECOND FORM. 'bulk': how many values and letters a reading holds, each counted each time it is reached (what is shared counts as often as it is met; a slice's spare places count too). A statement '..UptoSaid' is the law's where the arguments, and the package variables that the reading takes, are together of bulk at most 1048576: NARROWER than '..Said'. Prove '..Said' where nothing that the law and all that it calls make is longer than what came in: it says more and counts as full. Else prove '..UptoSaid'. A law counts once. -/
mutual
def uptoBulk {H : Type} : DataW H → Nat
  | .lit (.string bytes) => bytes.length + 1
  | .lit _ => 1
  | .nil => 1
  | .ptr d => uptoBulk d + 1
  | .slice elems spare => uptoBulkAll elems + uptoBulkAll spare + 1
  | .agg parts => uptoBulkAll parts + 1
  | .iface _ d => uptoBulk d + 1
  | .map entries => uptoBulkEntries entries + 1
  | .held _ => 1
def uptoBulkAll {H : Type} : List (DataW H) → Nat
  | [] => 0
  | d :: r => uptoBulk d + uptoBulkAll r
def uptoBulkEntries {H : Type} : List (Lit × DataW H) → Nat
  | [] => 0
  | x :: r => uptoBulkEntry x + uptoBulkEntries r
def uptoBulkEntry {H : Type} : Lit × DataW H → Nat
  | (.string bytes, d) => bytes.length + uptoBulk d + 1
  | (_, d) => uptoBulk d + 1
 end
def uptoSmall : (H : Type) → List (DataW H) → Bool := fun _ ds => decide (uptoBulkAll ds ≤ 1048576)
def OpenSpec.upto (s : _root_.Go.ChangeSpec) : _root_.Go.OpenSpec := { _root_.Go.OpenSpec.ofChange s with cond := some uptoSmall }

/-- 'laws.FnExactSameItems', WHERE WHAT IT READS IS OF BULK AT MOST 1048576: true; the input reads as it did. -/
def fnExactSameItemsUptoRow : OpenClaim := { program := "ytgooodacneknkaa", sum := "0f4b144935c23d7e93cd1fbae4e21fd3b3c6860acebda876a6c0648d804f2b5b", func := "loop.example/g00691/laws.FnExactSameItems", spec := "fnExactSameItems", unfollowed := true, recurses := true, apart := false, narrowed := true }
def FnExactSameItemsUptoSaid : Prop := fnExactSameItemsUptoRow.holds Try.pinned (OpenSpec.upto fnExactSameItemsSpec)

/-- 'laws.FnExactClockTo', WHERE WHAT IT READS IS OF BULK AT MOST 1048576: true; the input reads as it did. -/
def fnExactClockToUptoRow : OpenClaim := { program := "ytgooodacneknkaa", sum := "0f4b144935c23d7e93cd1fbae4e21fd3b3c6860acebda876a6c0648d804f2b5b", func := "loop.example/g00691/laws.FnExactClockTo", spec := "fnExactClockTo", apart := false, narrowed := true }
def FnExactClockToUptoSaid : Prop := fnExactClockToUptoRow.holds Try.pinned (OpenSpec.upto fnExactClockToSpec)

/-- 'laws.FnExactSameChanges', WHERE WHAT IT READS IS OF BULK AT MOST 1048576: true; the input reads as it did. -/
def fnExactSameChangesUptoRow : OpenClaim := { program := "ytgooodacneknkaa", sum := "0f4b144935c23d7e93cd1fbae4e21fd3b3c6860acebda876a6c0648d804f2b5b", func := "loop.example/g00691/laws.FnExactSameChanges", spec := "fnExactSameChanges", unfollowed := true, recurses := true, apart := false, narrowed := true }
def FnExactSameChangesUptoSaid : Prop := fnExactSameChangesUptoRow.holds Try.pinned (OpenSpec.upto fnExactSameChangesSpec)

end Rows
end Go.Proofs.Ytgooodacneknkaa
