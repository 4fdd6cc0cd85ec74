/-
  No cell of these rows narrows 'for every input' (looked for: loops, veiled, ifaces, maps, wideKeys, modest, calm, conditions, laid).
  DERIVED. THE GIVEN ROWS OF THIS SEAT. 10 by the template 'for every input the law returns true; each argument reads behind the call as it read before'; 0 by the template 'total and deterministic' (their statements: YtpngbpohopkkaaaTotals.lean).
  GIVEN WITH THE SEED: the statements are not yours to turn. If you find one false, say at which input.
  Laid BY PROGRAM, IN A SANDBOX (cutbox-rows.mjs): the forced cells as the released guide's own fill.sh prints them over the translation d0a72ea0070aae5c… (all of the seat's roots in one cut). By AI agents, Wed Nov 11 2026. No macro, syntax, notation, axiom, sorry.
-/
import Derived.Test.YtpngbpohopkkaaaChecked
import GoSem.Claim
import GoSem.ClaimJoined
import GoSem.ClaimMapViews
import Derived.JoinedTies
import Derived.KernelRfl
namespace Go.Proofs.Ytpngbpohopkkaaa
/- THE CELL 'sum', in the pinned program and in every row, IS THE sha256 OF THE DUMP (.gsa) THAT YtpngbpohopkkaaaProg.lean LOADS. Nothing in Lean hashes anything: it is a label: what it is worth is what the hold of that sum in a sandbox is worth. -/
noncomputable def Try.pinned : Pinned := { name := "ytpngbpohopkkaaa", sum := "d0a72ea0070aae5c958e4803536031e189e125c47bf41fd158e9053f452d4c1f", checked := Try.checked }
namespace Rows
def none {H : Type} : Left H := { results := [], args := [] }

/-- 'laws.FnExactDeviceFault': WHATEVER THE INPUT: true; the input reads as it did. -/
def fnExactDeviceFaultSpec : ChangeSpec := { name := "fnExactDeviceFault", fn := fun _ => fun
  | [d] => { results := [.lit (.bool true)], args := [d] }
  | _ => none }
def fnExactDeviceFaultRow : OpenClaim := { program := "ytpngbpohopkkaaa", sum := "d0a72ea0070aae5c958e4803536031e189e125c47bf41fd158e9053f452d4c1f", func := "loop.example/g00691/laws.FnExactDeviceFault", spec := "fnExactDeviceFault", unfollowed := true, recurses := true, apart := false }
def FnExactDeviceFaultSaid : Prop := fnExactDeviceFaultRow.holds Try.pinned (OpenSpec.ofChange fnExactDeviceFaultSpec)

/-- ITS FALSE NEIGHBOUR: 'it returns false'. Refute it at one input. -/
def fnExactDeviceFaultWrong : ChangeSpec := { name := "fnExactDeviceFault", fn := fun _ => fun
  | [d] => { results := [.lit (.bool false)], args := [d] }
  | _ => none }
def FnExactDeviceFaultWrongFalsely : Prop := fnExactDeviceFaultRow.holds Try.pinned (OpenSpec.ofChange fnExactDeviceFaultWrong)

/-- 'laws.FnExactNewDevice': WHATEVER THE INPUT: true; the input reads as it did. -/
def fnExactNewDeviceSpec : ChangeSpec := { name := "fnExactNewDevice", fn := fun _ => fun
  | [d] => { results := [.lit (.bool true)], args := [d] }
  | _ => none }
def fnExactNewDeviceRow : OpenClaim := { program := "ytpngbpohopkkaaa", sum := "d0a72ea0070aae5c958e4803536031e189e125c47bf41fd158e9053f452d4c1f", func := "loop.example/g00691/laws.FnExactNewDevice", spec := "fnExactNewDevice", apart := false }
def FnExactNewDeviceSaid : Prop := fnExactNewDeviceRow.holds Try.pinned (OpenSpec.ofChange fnExactNewDeviceSpec)

/-- ITS FALSE NEIGHBOUR: 'it returns false'. Refute it at one input. -/
def fnExactNewDeviceWrong : ChangeSpec := { name := "fnExactNewDevice", fn := fun _ => fun
  | [d] => { results := [.lit (.bool false)], args := [d] }
  | _ => none }
def FnExactNewDeviceWrongFalsely : Prop := fnExactNewDeviceRow.holds Try.pinned (OpenSpec.ofChange fnExactNewDeviceWrong)

/-- 'laws.FnExactLoadWord': WHATEVER THE INPUT: true; the input reads as it did. -/
def fnExactLoadWordSpec : ChangeSpec := { name := "fnExactLoadWord", fn := fun _ => fun
  | [d1, d2] => { results := [.lit (.bool true)], args := [d1, d2] }
  | _ => none }
def fnExactLoadWordRow : OpenClaim := { program := "ytpngbpohopkkaaa", sum := "d0a72ea0070aae5c958e4803536031e189e125c47bf41fd158e9053f452d4c1f", func := "loop.example/g00691/laws.FnExactLoadWord", spec := "fnExactLoadWord", unfollowed := true, recurses := true, apart := false }
def FnExactLoadWordSaid : Prop := fnExactLoadWordRow.holds Try.pinned (OpenSpec.ofChange fnExactLoadWordSpec)

/-- ITS FALSE NEIGHBOUR: 'it returns false'. Refute it at one input. -/
def fnExactLoadWordWrong : ChangeSpec := { name := "fnExactLoadWord", fn := fun _ => fun
  | [d1, d2] => { results := [.lit (.bool false)], args := [d1, d2] }
  | _ => none }
def FnExactLoadWordWrongFalsely : Prop := fnExactLoadWordRow.holds Try.pinned (OpenSpec.ofChange fnExactLoadWordWrong)

/-- 'laws.FnExactStoreWord': WHATEVER THE INPUT: true; the input reads as it did. -/
def fnExactStoreWordSpec : ChangeSpec := { name := "fnExactStoreWord", fn := fun _ => fun
  | [d1, d2, d3] => { results := [.lit (.bool true)], args := [d1, d2, d3] }
  | _ => none }
def fnExactStoreWordRow : OpenClaim := { program := "ytpngbpohopkkaaa", sum := "d0a72ea0070aae5c958e4803536031e189e125c47bf41fd158e9053f452d4c1f", func := "loop.example/g00691/laws.FnExactStoreWord", spec := "fnExactStoreWord", unfollowed := true, recurses := true, apart := false }
def FnExactStoreWordSaid : Prop := fnExactStoreWordRow.holds Try.pinned (OpenSpec.ofChange fnExactStoreWordSpec)

/-- ITS FALSE NEIGHBOUR: 'it returns false'. Refute it at one input. -/
def fnExactStoreWordWrong : ChangeSpec := { name := "fnExactStoreWord", fn := fun _ => fun
  | [d1, d2, d3] => { results := [.lit (.bool false)], args := [d1, d2, d3] }
  | _ => none }
def FnExactStoreWordWrongFalsely : Prop := fnExactStoreWordRow.holds Try.pinned (OpenSpec.ofChange fnExactStoreWordWrong)

/-- 'laws.FnExactFlushLine': WHATEVER THE INPUT: true; the input reads as it did. -/
def fnExactFlushLineSpec : ChangeSpec := { name := "fnExactFlushLine", fn := fun _ => fun
  | [d1, d2] => { results := [.lit (.bool true)], args := [d1, d2] }
  | _ => none }
def fnExactFlushLineRow : OpenClaim := { program := "ytpngbpohopkkaaa", sum := "d0a72ea0070aae5c958e4803536031e189e125c47bf41fd158e9053f452d4c1f", func := "loop.example/g00691/laws.FnExactFlushLine", spec := "fnExactFlushLine", unfollowed := true, recurses := true, apart := false }
def FnExactFlushLineSaid : Prop := fnExactFlushLineRow.holds Try.pinned (OpenSpec.ofChange fnExactFlushLineSpec)

/-- ITS FALSE NEIGHBOUR: 'it returns false'. Refute it at one input. -/
def fnExactFlushLineWrong : ChangeSpec := { name := "fnExactFlushLine", fn := fun _ => fun
  | [d1, d2] => { results := [.lit (.bool false)], args := [d1, d2] }
  | _ => none }
def FnExactFlushLineWrongFalsely : Prop := fnExactFlushLineRow.holds Try.pinned (OpenSpec.ofChange fnExactFlushLineWrong)

/-- 'laws.FnExactFenceDevice': WHATEVER THE INPUT: true; the input reads as it did. -/
def fnExactFenceDeviceSpec : ChangeSpec := { name := "fnExactFenceDevice", fn := fun _ => fun
  | [d] => { results := [.lit (.bool true)], args := [d] }
  | _ => none }
def fnExactFenceDeviceRow : OpenClaim := { program := "ytpngbpohopkkaaa", sum := "d0a72ea0070aae5c958e4803536031e189e125c47bf41fd158e9053f452d4c1f", func := "loop.example/g00691/laws.FnExactFenceDevice", spec := "fnExactFenceDevice", unfollowed := true, recurses := true, apart := false }
def FnExactFenceDeviceSaid : Prop := fnExactFenceDeviceRow.holds Try.pinned (OpenSpec.ofChange fnExactFenceDeviceSpec)

/-- ITS FALSE NEIGHBOUR: 'it returns false'. Refute it at one input. -/
def fnExactFenceDeviceWrong : ChangeSpec := { name := "fnExactFenceDevice", fn := fun _ => fun
  | [d] => { results := [.lit (.bool false)], args := [d] }
  | _ => none }
def FnExactFenceDeviceWrongFalsely : Prop := fnExactFenceDeviceRow.holds Try.pinned (OpenSpec.ofChange fnExactFenceDeviceWrong)

/-- 'laws.FnExactEvictWord': WHATEVER THE INPUT: true; the input reads as it did. -/
def fnExactEvictWordSpec : ChangeSpec := { name := "fnExactEvictWord", fn := fun _ => fun
  | [d1, d2] => { results := [.lit (.bool true)], args := [d1, d2] }
  | _ => none }
def fnExactEvictWordRow : OpenClaim := { program := "ytpngbpohopkkaaa", sum := "d0a72ea0070aae5c958e4803536031e189e125c47bf41fd158e9053f452d4c1f", func := "loop.example/g00691/laws.FnExactEvictWord", spec := "fnExactEvictWord", unfollowed := true, recurses := true, apart := false }
def FnExactEvictWordSaid : Prop := fnExactEvictWordRow.holds Try.pinned (OpenSpec.ofChange fnExactEvictWordSpec)

/-- ITS FALSE NEIGHBOUR: 'it returns false'. Refute it at one input. -/
def fnExactEvictWordWrong : ChangeSpec := { name := "fnExactEvictWord", fn := fun _ => fun
  | [d1, d2] => { results := [.lit (.bool false)], args := [d1, d2] }
  | _ => none }
def FnExactEvictWordWrongFalsely : Prop := fnExactEvictWordRow.holds Try.pinned (OpenSpec.ofChange fnExactEvictWordWrong)

/-- 'laws.FnExactCrashDevice': WHATEVER THE INPUT: true; the input reads as it did. -/
def fnExactCrashDeviceSpec : ChangeSpec := { name := "fnExactCrashDevice", fn := fun _ => fun
  | [d1, d2] => { results := [.lit (.bool true)], args := [d1, d2] }
  | _ => none }
def fnExactCrashDeviceRow : OpenClaim := { program := "ytpngbpohopkkaaa", sum := "d0a72ea0070aae5c958e4803536031e189e125c47bf41fd158e9053f452d4c1f", func := "loop.example/g00691/laws.FnExactCrashDevice", spec := "fnExactCrashDevice", unfollowed := true, recurses := true, apart := false }
def FnExactCrashDeviceSaid : Prop := fnExactCrashDeviceRow.holds Try.pinned (OpenSpec.ofChange fnExactCrashDeviceSpec)

/-- ITS FALSE NEIGHBOUR: 'it returns false'. Refute it at one input. -/
def fnExactCrashDeviceWrong : ChangeSpec := { name := "fnExactCrashDevice", fn := fun _ => fun
  | [d1, d2] => { results := [.lit (.bool false)], args := [d1, d2] }
  | _ => none }
def FnExactCrashDeviceWrongFalsely : Prop := fnExactCrashDeviceRow.holds Try.pinned (OpenSpec.ofChange fnExactCrashDeviceWrong)

/-- 'laws.FnExactDoActs': WHATEVER THE INPUT: true; the input reads as it did. -/
def fnExactDoActsSpec : ChangeSpec := { name := "fnExactDoActs", fn := fun _ => fun
  | [d1, d2] => { results := [.lit (.bool true)], args := [d1, d2] }
  | _ => none }
def fnExactDoActsRow : OpenClaim := { program := "ytpngbpohopkkaaa", sum := "d0a72ea0070aae5c958e4803536031e189e125c47bf41fd158e9053f452d4c1f", func := "loop.example/g00691/laws.FnExactDoActs", spec := "fnExactDoActs", unfollowed := true, recurses := true, apart := false }
def FnExactDoActsSaid : Prop := fnExactDoActsRow.holds Try.pinned (OpenSpec.ofChange fnExactDoActsSpec)

/-- ITS FALSE NEIGHBOUR: 'it returns false'. Refute it at one input. -/
def fnExactDoActsWrong : ChangeSpec := { name := "fnExactDoActs", fn := fun _ => fun
  | [d1, d2] => { results := [.lit (.bool false)], args := [d1, d2] }
  | _ => none }
def FnExactDoActsWrongFalsely : Prop := fnExactDoActsRow.holds Try.pinned (OpenSpec.ofChange fnExactDoActsWrong)

/-- 'laws.FnExactSameDevices': WHATEVER THE INPUT: true; the input reads as it did. -/
def fnExactSameDevicesSpec : ChangeSpec := { name := "fnExactSameDevices", fn := fun _ => fun
  | [d1, d2] => { results := [.lit (.bool true)], args := [d1, d2] }
  | _ => none }
def fnExactSameDevicesRow : OpenClaim := { program := "ytpngbpohopkkaaa", sum := "d0a72ea0070aae5c958e4803536031e189e125c47bf41fd158e9053f452d4c1f", func := "loop.example/g00691/laws.FnExactSameDevices", spec := "fnExactSameDevices", apart := false }
def FnExactSameDevicesSaid : Prop := fnExactSameDevicesRow.holds Try.pinned (OpenSpec.ofChange fnExactSameDevicesSpec)

/-- ITS FALSE NEIGHBOUR: 'it returns false'. Refute it at one input. -/
def fnExactSameDevicesWrong : ChangeSpec := { name := "fnExactSameDevices", fn := fun _ => fun
  | [d1, d2] => { results := [.lit (.bool false)], args := [d1, d2] }
  | _ => none }
def FnExactSameDevicesWrongFalsely : Prop := fnExactSameDevicesRow.holds Try.pinned (OpenSpec.ofChange fnExactSameDevicesWrong)

/- THE SECOND FORM. 'bulk': how many values and letters a reading holds, each counted each time it is reached (what is shared counts as often as it is met; a slice's spare places count too). A statement '..UptoSaid' is the law's where the arguments, and the package variables that the reading takes, are together of bulk at most 1048576: NARROWER than '..Said'. Prove '..Said' where nothing that the law and all that it calls make is longer than what came in: it says more and counts as full. Else prove '..UptoSaid'. A law counts once. -/
mutual
def uptoBulk {H : Type} : DataW H → Nat
  | .lit (.string bytes) => bytes.length + 1
  | .lit _ => 1
  | .nil => 1
  | .ptr d => uptoBulk d + 1
  | .slice elems spare => uptoBulkAll elems + uptoBulkAll spare + 1
  | .agg parts => uptoBulkAll parts + 1
  | .iface _ d => uptoBulk d + 1
  | .map entries => uptoBulkEntries entries + 1
  | .held _ => 1
def uptoBulkAll {H : Type} : List (DataW H) → Nat
  | [] => 0
  | d :: r => uptoBulk d + uptoBulkAll r
def uptoBulkEntries {H : Type} : List (Lit × DataW H) → Nat
  | [] => 0
  | x :: r => uptoBulkEntry x + uptoBulkEntries r
def uptoBulkEntry {H : Type} : Lit × DataW H → Nat
  | (.string bytes, d) => bytes.length + uptoBulk d + 1
  | (_, d) => uptoBulk d + 1
 end
def uptoSmall : (H : Type) → List (DataW H) → Bool := fun _ ds => decide (uptoBulkAll ds ≤ 1048576)
def OpenSpec.upto (s : _root_.Go.ChangeSpec) : _root_.Go.OpenSpec := { _root_.Go.OpenSpec.ofChange s with cond := some uptoSmall }

/-- 'laws.FnExactDeviceFault', WHERE WHAT IT READS IS OF BULK AT MOST 1048576: true; the input reads as it did. -/
def fnExactDeviceFaultUptoRow : OpenClaim := { program := "ytpngbpohopkkaaa", sum := "d0a72ea0070aae5c958e4803536031e189e125c47bf41fd158e9053f452d4c1f", func := "loop.example/g00691/laws.FnExactDeviceFault", spec := "fnExactDeviceFault", unfollowed := true, recurses := true, apart := false, narrowed := true }
def FnExactDeviceFaultUptoSaid : Prop := fnExactDeviceFaultUptoRow.holds Try.pinned (OpenSpec.upto fnExactDeviceFaultSpec)

/-- 'laws.FnExactNewDevice', WHERE WHAT IT READS IS OF BULK AT MOST 1048576: true; the input reads as it did. -/
def fnExactNewDeviceUptoRow : OpenClaim := { program := "ytpngbpohopkkaaa", sum := "d0a72ea0070aae5c958e4803536031e189e125c47bf41fd158e9053f452d4c1f", func := "loop.example/g00691/laws.FnExactNewDevice", spec := "fnExactNewDevice", apart := false, narrowed := true }
def FnExactNewDeviceUptoSaid : Prop := fnExactNewDeviceUptoRow.holds Try.pinned (OpenSpec.upto fnExactNewDeviceSpec)

/-- 'laws.FnExactLoadWord', WHERE WHAT IT READS IS OF BULK AT MOST 1048576: true; the input reads as it did. -/
def fnExactLoadWordUptoRow : OpenClaim := { program := "ytpngbpohopkkaaa", sum := "d0a72ea0070aae5c958e4803536031e189e125c47bf41fd158e9053f452d4c1f", func := "loop.example/g00691/laws.FnExactLoadWord", spec := "fnExactLoadWord", unfollowed := true, recurses := true, apart := false, narrowed := true }
def FnExactLoadWordUptoSaid : Prop := fnExactLoadWordUptoRow.holds Try.pinned (OpenSpec.upto fnExactLoadWordSpec)

/-- 'laws.FnExactStoreWord', WHERE WHAT IT READS IS OF BULK AT MOST 1048576: true; the input reads as it did. -/
def fnExactStoreWordUptoRow : OpenClaim := { program := "ytpngbpohopkkaaa", sum := "d0a72ea0070aae5c958e4803536031e189e125c47bf41fd158e9053f452d4c1f", func := "loop.example/g00691/laws.FnExactStoreWord", spec := "fnExactStoreWord", unfollowed := true, recurses := true, apart := false, narrowed := true }
def FnExactStoreWordUptoSaid : Prop := fnExactStoreWordUptoRow.holds Try.pinned (OpenSpec.upto fnExactStoreWordSpec)

/-- 'laws.FnExactFlushLine', WHERE WHAT IT READS IS OF BULK AT MOST 1048576: true; the input reads as it did. -/
def fnExactFlushLineUptoRow : OpenClaim := { program := "ytpngbpohopkkaaa", sum := "d0a72ea0070aae5c958e4803536031e189e125c47bf41fd158e9053f452d4c1f", func := "loop.example/g00691/laws.FnExactFlushLine", spec := "fnExactFlushLine", unfollowed := true, recurses := true, apart := false, narrowed := true }
def FnExactFlushLineUptoSaid : Prop := fnExactFlushLineUptoRow.holds Try.pinned (OpenSpec.upto fnExactFlushLineSpec)

/-- 'laws.FnExactFenceDevice', WHERE WHAT IT READS IS OF BULK AT MOST 1048576: true; the input reads as it did. -/
def fnExactFenceDeviceUptoRow : OpenClaim := { program := "ytpngbpohopkkaaa", sum := "d0a72ea0070aae5c958e4803536031e189e125c47bf41fd158e9053f452d4c1f", func := "loop.example/g00691/laws.FnExactFenceDevice", spec := "fnExactFenceDevice", unfollowed := true, recurses := true, apart := false, narrowed := true }
def FnExactFenceDeviceUptoSaid : Prop := fnExactFenceDeviceUptoRow.holds Try.pinned (OpenSpec.upto fnExactFenceDeviceSpec)

/-- 'laws.FnExactEvictWord', WHERE WHAT IT READS IS OF BULK AT MOST 1048576: true; the input reads as it did. -/
def fnExactEvictWordUptoRow : OpenClaim := { program := "ytpngbpohopkkaaa", sum := "d0a72ea0070aae5c958e4803536031e189e125c47bf41fd158e9053f452d4c1f", func := "loop.example/g00691/laws.FnExactEvictWord", spec := "fnExactEvictWord", unfollowed := true, recurses := true, apart := false, narrowed := true }
def FnExactEvictWordUptoSaid : Prop := fnExactEvictWordUptoRow.holds Try.pinned (OpenSpec.upto fnExactEvictWordSpec)

/-- 'laws.FnExactCrashDevice', WHERE WHAT IT READS IS OF BULK AT MOST 1048576: true; the input reads as it did. -/
def fnExactCrashDeviceUptoRow : OpenClaim := { program := "ytpngbpohopkkaaa", sum := "d0a72ea0070aae5c958e4803536031e189e125c47bf41fd158e9053f452d4c1f", func := "loop.example/g00691/laws.FnExactCrashDevice", spec := "fnExactCrashDevice", unfollowed := true, recurses := true, apart := false, narrowed := true }
def FnExactCrashDeviceUptoSaid : Prop := fnExactCrashDeviceUptoRow.holds Try.pinned (OpenSpec.upto fnExactCrashDeviceSpec)

/-- 'laws.FnExactDoActs', WHERE WHAT IT READS IS OF BULK AT MOST 1048576: true; the input reads as it did. -/
def fnExactDoActsUptoRow : OpenClaim := { program := "ytpngbpohopkkaaa", sum := "d0a72ea0070aae5c958e4803536031e189e125c47bf41fd158e9053f452d4c1f", func := "loop.example/g00691/laws.FnExactDoActs", spec := "fnExactDoActs", unfollowed := true, recurses := true, apart := false, narrowed := true }
def FnExactDoActsUptoSaid : Prop := fnExactDoActsUptoRow.holds Try.pinned (OpenSpec.upto fnExactDoActsSpec)

/-- 'laws.FnExactSameDevices', WHERE WHAT IT READS IS OF BULK AT MOST 1048576: true; the input reads as it did. -/
def fnExactSameDevicesUptoRow : OpenClaim := { program := "ytpngbpohopkkaaa", sum := "d0a72ea0070aae5c958e4803536031e189e125c47bf41fd158e9053f452d4c1f", func := "loop.example/g00691/laws.FnExactSameDevices", spec := "fnExactSameDevices", apart := false, narrowed := true }
def FnExactSameDevicesUptoSaid : Prop := fnExactSameDevicesUptoRow.holds Try.pinned (OpenSpec.upto fnExactSameDevicesSpec)

end Rows
end Go.Proofs.Ytpngbpohopkkaaa
