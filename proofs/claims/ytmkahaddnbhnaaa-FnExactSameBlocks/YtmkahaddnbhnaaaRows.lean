/-
  No cell of these rows narrows 'for every input' (looked for: loops, veiled, ifaces, maps, wideKeys, modest, calm, conditions, laid).
  DERIVED. THE GIVEN ROWS OF THIS SEAT. 9 by the template 'for every input the law returns true; each argument reads behind the call as it read before'; 0 by the template 'total and deterministic' (their statements: YtmkahaddnbhnaaaTotals.lean).
  GIVEN WITH THE SEED: the statements are not yours to turn. If you find one false, say at which input.
  Laid BY PROGRAM, IN A SANDBOX (cutbox-rows.mjs): the forced cells as the released guide's own fill.sh prints them over the translation 4e68961b49a0c0a7… (all of the seat's roots in one cut). By AI agents, Wed Nov 11 2026. No macro, syntax, notation, axiom, sorry.
-/
import Derived.Test.YtmkahaddnbhnaaaChecked
import GoSem.Claim
import GoSem.ClaimJoined
import GoSem.ClaimMapViews
import Derived.JoinedTies
import Derived.KernelRfl
namespace Go.Proofs.Ytmkahaddnbhnaaa
/- THE CELL 'sum', in the pinned program and in every row, IS THE sha256 OF THE DUMP (.gsa) THAT YtmkahaddnbhnaaaProg.lean LOADS. Nothing in Lean hashes anything: it is a label: what it is worth is what the hold of that sum in a sandbox is worth. -/
noncomputable def Try.pinned : Pinned := { name := "ytmkahaddnbhnaaa", sum := "4e68961b49a0c0a7c41ce374ee9873c01459fb272680279fb9f26af1c41e2824", checked := Try.checked }
namespace Rows
def none {H : Type} : Left H := { results := [], args := [] }

/-- 'laws.FnBlocks': WHATEVER THE INPUT: true; the input reads as it did. -/
def fnBlocksSpec : ChangeSpec := { name := "fnBlocks", fn := fun _ => fun
  | [d] => { results := [.lit (.bool true)], args := [d] }
  | _ => none }
def fnBlocksRow : OpenClaim := { program := "ytmkahaddnbhnaaa", sum := "4e68961b49a0c0a7c41ce374ee9873c01459fb272680279fb9f26af1c41e2824", func := "loop.example/g00691/laws.FnBlocks", spec := "fnBlocks", unfollowed := true, recurses := true, apart := false }
def FnBlocksSaid : Prop := fnBlocksRow.holds Try.pinned (OpenSpec.ofChange fnBlocksSpec)

/-- ITS FALSE NEIGHBOUR: 'it returns false'. Refute it at one input. -/
def fnBlocksWrong : ChangeSpec := { name := "fnBlocks", fn := fun _ => fun
  | [d] => { results := [.lit (.bool false)], args := [d] }
  | _ => none }
def FnBlocksWrongFalsely : Prop := fnBlocksRow.holds Try.pinned (OpenSpec.ofChange fnBlocksWrong)

/-- 'laws.FnReads': WHATEVER THE INPUT: true; the input reads as it did. -/
def fnReadsSpec : ChangeSpec := { name := "fnReads", fn := fun _ => fun
  | [d] => { results := [.lit (.bool true)], args := [d] }
  | _ => none }
def fnReadsRow : OpenClaim := { program := "ytmkahaddnbhnaaa", sum := "4e68961b49a0c0a7c41ce374ee9873c01459fb272680279fb9f26af1c41e2824", func := "loop.example/g00691/laws.FnReads", spec := "fnReads", unfollowed := true, recurses := true, apart := false }
def FnReadsSaid : Prop := fnReadsRow.holds Try.pinned (OpenSpec.ofChange fnReadsSpec)

/-- ITS FALSE NEIGHBOUR: 'it returns false'. Refute it at one input. -/
def fnReadsWrong : ChangeSpec := { name := "fnReads", fn := fun _ => fun
  | [d] => { results := [.lit (.bool false)], args := [d] }
  | _ => none }
def FnReadsWrongFalsely : Prop := fnReadsRow.holds Try.pinned (OpenSpec.ofChange fnReadsWrong)

/-- 'laws.FnExactNodeFault': WHATEVER THE INPUT: true; the input reads as it did. -/
def fnExactNodeFaultSpec : ChangeSpec := { name := "fnExactNodeFault", fn := fun _ => fun
  | [d] => { results := [.lit (.bool true)], args := [d] }
  | _ => none }
def fnExactNodeFaultRow : OpenClaim := { program := "ytmkahaddnbhnaaa", sum := "4e68961b49a0c0a7c41ce374ee9873c01459fb272680279fb9f26af1c41e2824", func := "loop.example/g00691/laws.FnExactNodeFault", spec := "fnExactNodeFault", apart := false }
def FnExactNodeFaultSaid : Prop := fnExactNodeFaultRow.holds Try.pinned (OpenSpec.ofChange fnExactNodeFaultSpec)

/-- ITS FALSE NEIGHBOUR: 'it returns false'. Refute it at one input. -/
def fnExactNodeFaultWrong : ChangeSpec := { name := "fnExactNodeFault", fn := fun _ => fun
  | [d] => { results := [.lit (.bool false)], args := [d] }
  | _ => none }
def FnExactNodeFaultWrongFalsely : Prop := fnExactNodeFaultRow.holds Try.pinned (OpenSpec.ofChange fnExactNodeFaultWrong)

/-- 'laws.FnExactNumbersFault': WHATEVER THE INPUT: true; the input reads as it did. -/
def fnExactNumbersFaultSpec : ChangeSpec := { name := "fnExactNumbersFault", fn := fun _ => fun
  | [d] => { results := [.lit (.bool true)], args := [d] }
  | _ => none }
def fnExactNumbersFaultRow : OpenClaim := { program := "ytmkahaddnbhnaaa", sum := "4e68961b49a0c0a7c41ce374ee9873c01459fb272680279fb9f26af1c41e2824", func := "loop.example/g00691/laws.FnExactNumbersFault", spec := "fnExactNumbersFault", apart := false }
def FnExactNumbersFaultSaid : Prop := fnExactNumbersFaultRow.holds Try.pinned (OpenSpec.ofChange fnExactNumbersFaultSpec)

/-- ITS FALSE NEIGHBOUR: 'it returns false'. Refute it at one input. -/
def fnExactNumbersFaultWrong : ChangeSpec := { name := "fnExactNumbersFault", fn := fun _ => fun
  | [d] => { results := [.lit (.bool false)], args := [d] }
  | _ => none }
def FnExactNumbersFaultWrongFalsely : Prop := fnExactNumbersFaultRow.holds Try.pinned (OpenSpec.ofChange fnExactNumbersFaultWrong)

/-- 'laws.FnExactPackNode': WHATEVER THE INPUT: true; the input reads as it did. -/
def fnExactPackNodeSpec : ChangeSpec := { name := "fnExactPackNode", fn := fun _ => fun
  | [d1, d2] => { results := [.lit (.bool true)], args := [d1, d2] }
  | _ => none }
def fnExactPackNodeRow : OpenClaim := { program := "ytmkahaddnbhnaaa", sum := "4e68961b49a0c0a7c41ce374ee9873c01459fb272680279fb9f26af1c41e2824", func := "loop.example/g00691/laws.FnExactPackNode", spec := "fnExactPackNode", unfollowed := true, recurses := true, apart := false }
def FnExactPackNodeSaid : Prop := fnExactPackNodeRow.holds Try.pinned (OpenSpec.ofChange fnExactPackNodeSpec)

/-- ITS FALSE NEIGHBOUR: 'it returns false'. Refute it at one input. -/
def fnExactPackNodeWrong : ChangeSpec := { name := "fnExactPackNode", fn := fun _ => fun
  | [d1, d2] => { results := [.lit (.bool false)], args := [d1, d2] }
  | _ => none }
def FnExactPackNodeWrongFalsely : Prop := fnExactPackNodeRow.holds Try.pinned (OpenSpec.ofChange fnExactPackNodeWrong)

/-- 'laws.FnExactPackData': WHATEVER THE INPUT: true; the input reads as it did. -/
def fnExactPackDataSpec : ChangeSpec := { name := "fnExactPackData", fn := fun _ => fun
  | [d1, d2, d3, d4] => { results := [.lit (.bool true)], args := [d1, d2, d3, d4] }
  | _ => none }
def fnExactPackDataRow : OpenClaim := { program := "ytmkahaddnbhnaaa", sum := "4e68961b49a0c0a7c41ce374ee9873c01459fb272680279fb9f26af1c41e2824", func := "loop.example/g00691/laws.FnExactPackData", spec := "fnExactPackData", unfollowed := true, recurses := true, apart := false }
def FnExactPackDataSaid : Prop := fnExactPackDataRow.holds Try.pinned (OpenSpec.ofChange fnExactPackDataSpec)

/-- ITS FALSE NEIGHBOUR: 'it returns false'. Refute it at one input. -/
def fnExactPackDataWrong : ChangeSpec := { name := "fnExactPackData", fn := fun _ => fun
  | [d1, d2, d3, d4] => { results := [.lit (.bool false)], args := [d1, d2, d3, d4] }
  | _ => none }
def FnExactPackDataWrongFalsely : Prop := fnExactPackDataRow.holds Try.pinned (OpenSpec.ofChange fnExactPackDataWrong)

/-- 'laws.FnExactPackGone': WHATEVER THE INPUT: true; the input reads as it did. -/
def fnExactPackGoneSpec : ChangeSpec := { name := "fnExactPackGone", fn := fun _ => fun
  | [d1, d2] => { results := [.lit (.bool true)], args := [d1, d2] }
  | _ => none }
def fnExactPackGoneRow : OpenClaim := { program := "ytmkahaddnbhnaaa", sum := "4e68961b49a0c0a7c41ce374ee9873c01459fb272680279fb9f26af1c41e2824", func := "loop.example/g00691/laws.FnExactPackGone", spec := "fnExactPackGone", unfollowed := true, recurses := true, apart := false }
def FnExactPackGoneSaid : Prop := fnExactPackGoneRow.holds Try.pinned (OpenSpec.ofChange fnExactPackGoneSpec)

/-- ITS FALSE NEIGHBOUR: 'it returns false'. Refute it at one input. -/
def fnExactPackGoneWrong : ChangeSpec := { name := "fnExactPackGone", fn := fun _ => fun
  | [d1, d2] => { results := [.lit (.bool false)], args := [d1, d2] }
  | _ => none }
def FnExactPackGoneWrongFalsely : Prop := fnExactPackGoneRow.holds Try.pinned (OpenSpec.ofChange fnExactPackGoneWrong)

/-- 'laws.FnExactReadBlock': WHATEVER THE INPUT: true; the input reads as it did. -/
def fnExactReadBlockSpec : ChangeSpec := { name := "fnExactReadBlock", fn := fun _ => fun
  | [d] => { results := [.lit (.bool true)], args := [d] }
  | _ => none }
def fnExactReadBlockRow : OpenClaim := { program := "ytmkahaddnbhnaaa", sum := "4e68961b49a0c0a7c41ce374ee9873c01459fb272680279fb9f26af1c41e2824", func := "loop.example/g00691/laws.FnExactReadBlock", spec := "fnExactReadBlock", unfollowed := true, recurses := true, apart := false }
def FnExactReadBlockSaid : Prop := fnExactReadBlockRow.holds Try.pinned (OpenSpec.ofChange fnExactReadBlockSpec)

/-- ITS FALSE NEIGHBOUR: 'it returns false'. Refute it at one input. -/
def fnExactReadBlockWrong : ChangeSpec := { name := "fnExactReadBlock", fn := fun _ => fun
  | [d] => { results := [.lit (.bool false)], args := [d] }
  | _ => none }
def FnExactReadBlockWrongFalsely : Prop := fnExactReadBlockRow.holds Try.pinned (OpenSpec.ofChange fnExactReadBlockWrong)

/-- 'laws.FnExactSameBlocks': WHATEVER THE INPUT: true; the input reads as it did. -/
def fnExactSameBlocksSpec : ChangeSpec := { name := "fnExactSameBlocks", fn := fun _ => fun
  | [d1, d2] => { results := [.lit (.bool true)], args := [d1, d2] }
  | _ => none }
def fnExactSameBlocksRow : OpenClaim := { program := "ytmkahaddnbhnaaa", sum := "4e68961b49a0c0a7c41ce374ee9873c01459fb272680279fb9f26af1c41e2824", func := "loop.example/g00691/laws.FnExactSameBlocks", spec := "fnExactSameBlocks", unfollowed := true, recurses := true, apart := false }
def FnExactSameBlocksSaid : Prop := fnExactSameBlocksRow.holds Try.pinned (OpenSpec.ofChange fnExactSameBlocksSpec)

/-- ITS FALSE NEIGHBOUR: 'it returns false'. Refute it at one input. -/
def fnExactSameBlocksWrong : ChangeSpec := { name := "fnExactSameBlocks", fn := fun _ => fun
  | [d1, d2] => { results := [.lit (.bool false)], args := [d1, d2] }
  | _ => none }
def FnExactSameBlocksWrongFalsely : Prop := fnExactSameBlocksRow.holds Try.pinned (OpenSpec.ofChange fnExactSameBlocksWrong)

/- THE SECOND FORM. 'bulk': how many values and letters a reading holds, each counted each time it is reached (what is shared counts as often as it is met; a slice's spare places count too). A statement '..UptoSaid' is the law's where the arguments, and the package variables that the reading takes, are together of bulk at most 1048576: NARROWER than '..Said'. Prove '..Said' where nothing that the law and all that it calls make is longer than what came in: it says more and counts as full. Else prove '..UptoSaid'. A law counts once. -/
mutual
def uptoBulk {H : Type} : DataW H → Nat
  | .lit (.string bytes) => bytes.length + 1
  | .lit _ => 1
  | .nil => 1
  | .ptr d => uptoBulk d + 1
  | .slice elems spare => uptoBulkAll elems + uptoBulkAll spare + 1
  | .agg parts => uptoBulkAll parts + 1
  | .iface _ d => uptoBulk d + 1
  | .map entries => uptoBulkEntries entries + 1
  | .held _ => 1
def uptoBulkAll {H : Type} : List (DataW H) → Nat
  | [] => 0
  | d :: r => uptoBulk d + uptoBulkAll r
def uptoBulkEntries {H : Type} : List (Lit × DataW H) → Nat
  | [] => 0
  | x :: r => uptoBulkEntry x + uptoBulkEntries r
def uptoBulkEntry {H : Type} : Lit × DataW H → Nat
  | (.string bytes, d) => bytes.length + uptoBulk d + 1
  | (_, d) => uptoBulk d + 1
 end
def uptoSmall : (H : Type) → List (DataW H) → Bool := fun _ ds => decide (uptoBulkAll ds ≤ 1048576)
def OpenSpec.upto (s : _root_.Go.ChangeSpec) : _root_.Go.OpenSpec := { _root_.Go.OpenSpec.ofChange s with cond := some uptoSmall }

/-- 'laws.FnBlocks', WHERE WHAT IT READS IS OF BULK AT MOST 1048576: true; the input reads as it did. -/
def fnBlocksUptoRow : OpenClaim := { program := "ytmkahaddnbhnaaa", sum := "4e68961b49a0c0a7c41ce374ee9873c01459fb272680279fb9f26af1c41e2824", func := "loop.example/g00691/laws.FnBlocks", spec := "fnBlocks", unfollowed := true, recurses := true, apart := false, narrowed := true }
def FnBlocksUptoSaid : Prop := fnBlocksUptoRow.holds Try.pinned (OpenSpec.upto fnBlocksSpec)

/-- 'laws.FnReads', WHERE WHAT IT READS IS OF BULK AT MOST 1048576: true; the input reads as it did. -/
def fnReadsUptoRow : OpenClaim := { program := "ytmkahaddnbhnaaa", sum := "4e68961b49a0c0a7c41ce374ee9873c01459fb272680279fb9f26af1c41e2824", func := "loop.example/g00691/laws.FnReads", spec := "fnReads", unfollowed := true, recurses := true, apart := false, narrowed := true }
def FnReadsUptoSaid : Prop := fnReadsUptoRow.holds Try.pinned (OpenSpec.upto fnReadsSpec)

/-- 'laws.FnExactNodeFault', WHERE WHAT IT READS IS OF BULK AT MOST 1048576: true; the input reads as it did. -/
def fnExactNodeFaultUptoRow : OpenClaim := { program := "ytmkahaddnbhnaaa", sum := "4e68961b49a0c0a7c41ce374ee9873c01459fb272680279fb9f26af1c41e2824", func := "loop.example/g00691/laws.FnExactNodeFault", spec := "fnExactNodeFault", apart := false, narrowed := true }
def FnExactNodeFaultUptoSaid : Prop := fnExactNodeFaultUptoRow.holds Try.pinned (OpenSpec.upto fnExactNodeFaultSpec)

/-- 'laws.FnExactNumbersFault', WHERE WHAT IT READS IS OF BULK AT MOST 1048576: true; the input reads as it did. -/
def fnExactNumbersFaultUptoRow : OpenClaim := { program := "ytmkahaddnbhnaaa", sum := "4e68961b49a0c0a7c41ce374ee9873c01459fb272680279fb9f26af1c41e2824", func := "loop.example/g00691/laws.FnExactNumbersFault", spec := "fnExactNumbersFault", apart := false, narrowed := true }
def FnExactNumbersFaultUptoSaid : Prop := fnExactNumbersFaultUptoRow.holds Try.pinned (OpenSpec.upto fnExactNumbersFaultSpec)

/-- 'laws.FnExactPackNode', WHERE WHAT IT READS IS OF BULK AT MOST 1048576: true; the input reads as it did. -/
def fnExactPackNodeUptoRow : OpenClaim := { program := "ytmkahaddnbhnaaa", sum := "4e68961b49a0c0a7c41ce374ee9873c01459fb272680279fb9f26af1c41e2824", func := "loop.example/g00691/laws.FnExactPackNode", spec := "fnExactPackNode", unfollowed := true, recurses := true, apart := false, narrowed := true }
def FnExactPackNodeUptoSaid : Prop := fnExactPackNodeUptoRow.holds Try.pinned (OpenSpec.upto fnExactPackNodeSpec)

/-- 'laws.FnExactPackData', WHERE WHAT IT READS IS OF BULK AT MOST 1048576: true; the input reads as it did. -/
def fnExactPackDataUptoRow : OpenClaim := { program := "ytmkahaddnbhnaaa", sum := "4e68961b49a0c0a7c41ce374ee9873c01459fb272680279fb9f26af1c41e2824", func := "loop.example/g00691/laws.FnExactPackData", spec := "fnExactPackData", unfollowed := true, recurses := true, apart := false, narrowed := true }
def FnExactPackDataUptoSaid : Prop := fnExactPackDataUptoRow.holds Try.pinned (OpenSpec.upto fnExactPackDataSpec)

/-- 'laws.FnExactPackGone', WHERE WHAT IT READS IS OF BULK AT MOST 1048576: true; the input reads as it did. -/
def fnExactPackGoneUptoRow : OpenClaim := { program := "ytmkahaddnbhnaaa", sum := "4e68961b49a0c0a7c41ce374ee9873c01459fb272680279fb9f26af1c41e2824", func := "loop.example/g00691/laws.FnExactPackGone", spec := "fnExactPackGone", unfollowed := true, recurses := true, apart := false, narrowed := true }
def FnExactPackGoneUptoSaid : Prop := fnExactPackGoneUptoRow.holds Try.pinned (OpenSpec.upto fnExactPackGoneSpec)

/-- 'laws.FnExactReadBlock', WHERE WHAT IT READS IS OF BULK AT MOST 1048576: true; the input reads as it did. -/
def fnExactReadBlockUptoRow : OpenClaim := { program := "ytmkahaddnbhnaaa", sum := "4e68961b49a0c0a7c41ce374ee9873c01459fb272680279fb9f26af1c41e2824", func := "loop.example/g00691/laws.FnExactReadBlock", spec := "fnExactReadBlock", unfollowed := true, recurses := true, apart := false, narrowed := true }
def FnExactReadBlockUptoSaid : Prop := fnExactReadBlockUptoRow.holds Try.pinned (OpenSpec.upto fnExactReadBlockSpec)

/-- 'laws.FnExactSameBlocks', WHERE WHAT IT READS IS OF BULK AT MOST 1048576: true; the input reads as it did. -/
def fnExactSameBlocksUptoRow : OpenClaim := { program := "ytmkahaddnbhnaaa", sum := "4e68961b49a0c0a7c41ce374ee9873c01459fb272680279fb9f26af1c41e2824", func := "loop.example/g00691/laws.FnExactSameBlocks", spec := "fnExactSameBlocks", unfollowed := true, recurses := true, apart := false, narrowed := true }
def FnExactSameBlocksUptoSaid : Prop := fnExactSameBlocksUptoRow.holds Try.pinned (OpenSpec.upto fnExactSameBlocksSpec)

end Rows
end Go.Proofs.Ytmkahaddnbhnaaa
