/-
  No cell of these rows narrows 'for every input' (looked for: loops, veiled, ifaces, maps, wideKeys, modest, calm, conditions, laid).
  DERIVED. THE GIVEN ROWS OF THIS SEAT. 5 by the template 'for every input the law returns true; each argument reads behind the call as it read before'; 0 by the template 'total and deterministic' (their statements: YtomlllpojpbciafTotals.lean).
  GIVEN WITH THE SEED: the statements are not yours to turn. If you find one false, say at which input.
  Laid BY PROGRAM, IN A SANDBOX (cutbox-rows.mjs): the forced cells as the released guide's own fill.sh prints them over the translation 26a639e0897ca0d2… (all of the seat's roots in one cut). By AI agents, Wed Nov 11 2026. No macro, syntax, notation, axiom, sorry.
-/
import Derived.Test.YtomlllpojpbciafChecked
import GoSem.Claim
import GoSem.ClaimJoined
import GoSem.ClaimMapViews
import Derived.JoinedTies
import Derived.KernelRfl
namespace Go.Proofs.Ytomlllpojpbciaf
/- THE CELL 'sum', in the pinned program and in every row, IS THE sha256 OF THE DUMP (.gsa) THAT YtomlllpojpbciafProg.lean LOADS. Nothing in Lean hashes anything: it is a label: what it is worth is what the hold of that sum in a sandbox is worth. -/
noncomputable def Try.pinned : Pinned := { name := "ytomlllpojpbciaf", sum := "26a639e0897ca0d2f98fa7345f934294d84c36c06398a721fc9c99df3cbc43a4", checked := Try.checked }
namespace Rows
def none {H : Type} : Left H := { results := [], args := [] }

/-- 'laws.FnExactIsName': WHATEVER THE INPUT: true; the input reads as it did. -/
def fnExactIsNameSpec : ChangeSpec := { name := "fnExactIsName", fn := fun _ => fun
  | [d] => { results := [.lit (.bool true)], args := [d] }
  | _ => none }
def fnExactIsNameRow : OpenClaim := { program := "ytomlllpojpbciaf", sum := "26a639e0897ca0d2f98fa7345f934294d84c36c06398a721fc9c99df3cbc43a4", func := "loop.example/g00691/laws.FnExactIsName", spec := "fnExactIsName", apart := false }
def FnExactIsNameSaid : Prop := fnExactIsNameRow.holds Try.pinned (OpenSpec.ofChange fnExactIsNameSpec)

/-- ITS FALSE NEIGHBOUR: 'it returns false'. Refute it at one input. -/
def fnExactIsNameWrong : ChangeSpec := { name := "fnExactIsName", fn := fun _ => fun
  | [d] => { results := [.lit (.bool false)], args := [d] }
  | _ => none }
def FnExactIsNameWrongFalsely : Prop := fnExactIsNameRow.holds Try.pinned (OpenSpec.ofChange fnExactIsNameWrong)

/-- 'laws.FnExactNameWord': WHATEVER THE INPUT: true; the input reads as it did. -/
def fnExactNameWordSpec : ChangeSpec := { name := "fnExactNameWord", fn := fun _ => fun
  | [d] => { results := [.lit (.bool true)], args := [d] }
  | _ => none }
def fnExactNameWordRow : OpenClaim := { program := "ytomlllpojpbciaf", sum := "26a639e0897ca0d2f98fa7345f934294d84c36c06398a721fc9c99df3cbc43a4", func := "loop.example/g00691/laws.FnExactNameWord", spec := "fnExactNameWord", apart := false }
def FnExactNameWordSaid : Prop := fnExactNameWordRow.holds Try.pinned (OpenSpec.ofChange fnExactNameWordSpec)

/-- ITS FALSE NEIGHBOUR: 'it returns false'. Refute it at one input. -/
def fnExactNameWordWrong : ChangeSpec := { name := "fnExactNameWord", fn := fun _ => fun
  | [d] => { results := [.lit (.bool false)], args := [d] }
  | _ => none }
def FnExactNameWordWrongFalsely : Prop := fnExactNameWordRow.holds Try.pinned (OpenSpec.ofChange fnExactNameWordWrong)

/-- 'laws.FnExactWordName': WHATEVER THE INPUT: true; the input reads as it did. -/
def fnExactWordNameSpec : ChangeSpec := { name := "fnExactWordName", fn := fun _ => fun
  | [d] => { results := [.lit (.bool true)], args := [d] }
  | _ => none }
def fnExactWordNameRow : OpenClaim := { program := "ytomlllpojpbciaf", sum := "26a639e0897ca0d2f98fa7345f934294d84c36c06398a721fc9c99df3cbc43a4", func := "loop.example/g00691/laws.FnExactWordName", spec := "fnExactWordName", apart := false }
def FnExactWordNameSaid : Prop := fnExactWordNameRow.holds Try.pinned (OpenSpec.ofChange fnExactWordNameSpec)

/-- ITS FALSE NEIGHBOUR: 'it returns false'. Refute it at one input. -/
def fnExactWordNameWrong : ChangeSpec := { name := "fnExactWordName", fn := fun _ => fun
  | [d] => { results := [.lit (.bool false)], args := [d] }
  | _ => none }
def FnExactWordNameWrongFalsely : Prop := fnExactWordNameRow.holds Try.pinned (OpenSpec.ofChange fnExactWordNameWrong)

/-- 'laws.FnExactPathOf': WHATEVER THE INPUT: true; the input reads as it did. -/
def fnExactPathOfSpec : ChangeSpec := { name := "fnExactPathOf", fn := fun _ => fun
  | [d] => { results := [.lit (.bool true)], args := [d] }
  | _ => none }
def fnExactPathOfRow : OpenClaim := { program := "ytomlllpojpbciaf", sum := "26a639e0897ca0d2f98fa7345f934294d84c36c06398a721fc9c99df3cbc43a4", func := "loop.example/g00691/laws.FnExactPathOf", spec := "fnExactPathOf", inPlace := ["internal/abi.NoEscape", "internal/bytealg.MakeNoZero"], apart := false }
def FnExactPathOfSaid : Prop := fnExactPathOfRow.holds Try.pinned (OpenSpec.ofChange fnExactPathOfSpec)

/-- ITS FALSE NEIGHBOUR: 'it returns false'. Refute it at one input. -/
def fnExactPathOfWrong : ChangeSpec := { name := "fnExactPathOf", fn := fun _ => fun
  | [d] => { results := [.lit (.bool false)], args := [d] }
  | _ => none }
def FnExactPathOfWrongFalsely : Prop := fnExactPathOfRow.holds Try.pinned (OpenSpec.ofChange fnExactPathOfWrong)

/-- 'laws.FnExactHeadFault': WHATEVER THE INPUT: true; the input reads as it did. -/
def fnExactHeadFaultSpec : ChangeSpec := { name := "fnExactHeadFault", fn := fun _ => fun
  | [d] => { results := [.lit (.bool true)], args := [d] }
  | _ => none }
def fnExactHeadFaultRow : OpenClaim := { program := "ytomlllpojpbciaf", sum := "26a639e0897ca0d2f98fa7345f934294d84c36c06398a721fc9c99df3cbc43a4", func := "loop.example/g00691/laws.FnExactHeadFault", spec := "fnExactHeadFault", apart := false }
def FnExactHeadFaultSaid : Prop := fnExactHeadFaultRow.holds Try.pinned (OpenSpec.ofChange fnExactHeadFaultSpec)

/-- ITS FALSE NEIGHBOUR: 'it returns false'. Refute it at one input. -/
def fnExactHeadFaultWrong : ChangeSpec := { name := "fnExactHeadFault", fn := fun _ => fun
  | [d] => { results := [.lit (.bool false)], args := [d] }
  | _ => none }
def FnExactHeadFaultWrongFalsely : Prop := fnExactHeadFaultRow.holds Try.pinned (OpenSpec.ofChange fnExactHeadFaultWrong)

/- THE SECOND FORM. 'bulk': how many values and letters a reading holds, each counted each time it is reached (what is shared counts as often as it is met; a slice's spare places count too). A statement '..UptoSaid' is the law's where the arguments, and the package variables that the reading takes, are together of bulk at most 1048576: NARROWER than '..Said'. Prove '..Said' where nothing that the law and all that it calls make is longer than what came in: it says more and counts as full. Else prove '..UptoSaid'. A law counts once. -/
mutual
def uptoBulk {H : Type} : DataW H → Nat
  | .lit (.string bytes) => bytes.length + 1
  | .lit _ => 1
  | .nil => 1
  | .ptr d => uptoBulk d + 1
  | .slice elems spare => uptoBulkAll elems + uptoBulkAll spare + 1
  | .agg parts => uptoBulkAll parts + 1
  | .iface _ d => uptoBulk d + 1
  | .map entries => uptoBulkEntries entries + 1
  | .held _ => 1
def uptoBulkAll {H : Type} : List (DataW H) → Nat
  | [] => 0
  | d :: r => uptoBulk d + uptoBulkAll r
def uptoBulkEntries {H : Type} : List (Lit × DataW H) → Nat
  | [] => 0
  | x :: r => uptoBulkEntry x + uptoBulkEntries r
def uptoBulkEntry {H : Type} : Lit × DataW H → Nat
  | (.string bytes, d) => bytes.length + uptoBulk d + 1
  | (_, d) => uptoBulk d + 1
 end
def uptoSmall : (H : Type) → List (DataW H) → Bool := fun _ ds => decide (uptoBulkAll ds ≤ 1048576)
def OpenSpec.upto (s : _root_.Go.ChangeSpec) : _root_.Go.OpenSpec := { _root_.Go.OpenSpec.ofChange s with cond := some uptoSmall }

/-- 'laws.FnExactIsName', WHERE WHAT IT READS IS OF BULK AT MOST 1048576: true; the input reads as it did. -/
def fnExactIsNameUptoRow : OpenClaim := { program := "ytomlllpojpbciaf", sum := "26a639e0897ca0d2f98fa7345f934294d84c36c06398a721fc9c99df3cbc43a4", func := "loop.example/g00691/laws.FnExactIsName", spec := "fnExactIsName", apart := false, narrowed := true }
def FnExactIsNameUptoSaid : Prop := fnExactIsNameUptoRow.holds Try.pinned (OpenSpec.upto fnExactIsNameSpec)

/-- 'laws.FnExactNameWord', WHERE WHAT IT READS IS OF BULK AT MOST 1048576: true; the input reads as it did. -/
def fnExactNameWordUptoRow : OpenClaim := { program := "ytomlllpojpbciaf", sum := "26a639e0897ca0d2f98fa7345f934294d84c36c06398a721fc9c99df3cbc43a4", func := "loop.example/g00691/laws.FnExactNameWord", spec := "fnExactNameWord", apart := false, narrowed := true }
def FnExactNameWordUptoSaid : Prop := fnExactNameWordUptoRow.holds Try.pinned (OpenSpec.upto fnExactNameWordSpec)

/-- 'laws.FnExactWordName', WHERE WHAT IT READS IS OF BULK AT MOST 1048576: true; the input reads as it did. -/
def fnExactWordNameUptoRow : OpenClaim := { program := "ytomlllpojpbciaf", sum := "26a639e0897ca0d2f98fa7345f934294d84c36c06398a721fc9c99df3cbc43a4", func := "loop.example/g00691/laws.FnExactWordName", spec := "fnExactWordName", apart := false, narrowed := true }
def FnExactWordNameUptoSaid : Prop := fnExactWordNameUptoRow.holds Try.pinned (OpenSpec.upto fnExactWordNameSpec)

/-- 'laws.FnExactPathOf', WHERE WHAT IT READS IS OF BULK AT MOST 1048576: true; the input reads as it did. -/
def fnExactPathOfUptoRow : OpenClaim := { program := "ytomlllpojpbciaf", sum := "26a639e0897ca0d2f98fa7345f934294d84c36c06398a721fc9c99df3cbc43a4", func := "loop.example/g00691/laws.FnExactPathOf", spec := "fnExactPathOf", inPlace := ["internal/abi.NoEscape", "internal/bytealg.MakeNoZero"], apart := false, narrowed := true }
def FnExactPathOfUptoSaid : Prop := fnExactPathOfUptoRow.holds Try.pinned (OpenSpec.upto fnExactPathOfSpec)

/-- 'laws.FnExactHeadFault', WHERE WHAT IT READS IS OF BULK AT MOST 1048576: true; the input reads as it did. -/
def fnExactHeadFaultUptoRow : OpenClaim := { program := "ytomlllpojpbciaf", sum := "26a639e0897ca0d2f98fa7345f934294d84c36c06398a721fc9c99df3cbc43a4", func := "loop.example/g00691/laws.FnExactHeadFault", spec := "fnExactHeadFault", apart := false, narrowed := true }
def FnExactHeadFaultUptoSaid : Prop := fnExactHeadFaultUptoRow.holds Try.pinned (OpenSpec.upto fnExactHeadFaultSpec)

end Rows
end Go.Proofs.Ytomlllpojpbciaf
