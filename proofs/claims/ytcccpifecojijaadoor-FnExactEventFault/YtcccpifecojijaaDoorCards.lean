/-
  DERIVED. GIVEN WITH THE SEED: THE CARDS: each row of YtcccpifecojijaaDoorRows.lean that lists a variable, with what it lists TIED to the program's text (the seventh form; the later family's looks); each row that meets fmt, with fmt's text TOLD by the authors' own Lean function (tested against real Go, not proved from fmt's source: count such statements apart). THE CARD IS WHAT COUNTS. Prove the row's statement (the work); the ties are given (YtcccpifecojijaaDoorTie.lean); close each card by the builder's one call (the guide's Derived/Test/ToyasCard.lean, 'card_holds'). Laid BY PROGRAM, IN A SANDBOX (cutbox-door.mjs). By AI agents, Wed Nov 11 2026. No macro, syntax, notation, axiom, sorry.
-/
import Derived.Test.YtcccpifecojijaaDoorRows
import GoSem.ClaimSeven
namespace Go.Proofs.YtcccpifecojijaaDoor
namespace Rows

/-- THE TIED CARD OF 'laws.FnExactItemsFault'. -/
def fnExactItemsFaultCard : Claim7 := { stood := { row := fnExactItemsFaultRow, standIns := [], harness := (true, "d68612591b4bcdbe02409fd3f1497402dab16756dd75979886b0d554d8970d1b"), looks := false }, kinds := [], alts := [], laidByText := true, laidKinds := [.data, .pinned], laidTests := true, laidLooks := .later }
def FnExactItemsFaultCardSaid : Prop := Claim7.holds Tryd.pinned (.plain (OpenSpec.ofChange fnExactItemsFaultSpec)) fnExactItemsFaultCard

/-- THE TIED CARD OF 'laws.FnExactOpFault'. -/
def fnExactOpFaultCard : Claim7 := { stood := { row := fnExactOpFaultRow, standIns := [], harness := (true, "d68612591b4bcdbe02409fd3f1497402dab16756dd75979886b0d554d8970d1b"), looks := false }, kinds := [], alts := [], laidByText := true, laidKinds := [.data, .pinned], laidTests := true, laidLooks := .later }
def FnExactOpFaultCardSaid : Prop := Claim7.holds Tryd.pinned (.plain (OpenSpec.ofChange fnExactOpFaultSpec)) fnExactOpFaultCard

/-- THE TIED CARD OF 'laws.FnExactIsMutation'. -/
def fnExactIsMutationCard : Claim7 := { stood := { row := fnExactIsMutationRow, standIns := [], harness := (true, "d68612591b4bcdbe02409fd3f1497402dab16756dd75979886b0d554d8970d1b"), looks := false }, kinds := [], alts := [], laidByText := true, laidKinds := [.data, .pinned], laidTests := true, laidLooks := .later }
def FnExactIsMutationCardSaid : Prop := Claim7.holds Tryd.pinned (.plain (OpenSpec.ofChange fnExactIsMutationSpec)) fnExactIsMutationCard

/-- THE TIED CARD OF 'laws.FnExactEventFault'. -/
def fnExactEventFaultCard : Claim7 := { stood := { row := fnExactEventFaultRow, standIns := [], harness := (true, "d68612591b4bcdbe02409fd3f1497402dab16756dd75979886b0d554d8970d1b"), looks := false }, kinds := [], alts := [], laidByText := true, laidKinds := [.data, .pinned], laidTests := true, laidLooks := .later }
def FnExactEventFaultCardSaid : Prop := Claim7.holds Tryd.pinned (.plain (OpenSpec.ofChange fnExactEventFaultSpec)) fnExactEventFaultCard

/-- THE SECOND FORM's CARD OF 'laws.FnExactItemsFault'. -/
def fnExactItemsFaultUptoCard : Claim7 := { stood := { row := fnExactItemsFaultUptoRow, standIns := [], harness := (true, "d68612591b4bcdbe02409fd3f1497402dab16756dd75979886b0d554d8970d1b"), looks := false }, kinds := [], alts := [], laidByText := true, laidKinds := [.data, .pinned], laidTests := true, laidLooks := .later }
def FnExactItemsFaultUptoCardSaid : Prop := Claim7.holds Tryd.pinned (.plain (OpenSpec.upto fnExactItemsFaultSpec)) fnExactItemsFaultUptoCard

/-- THE SECOND FORM's CARD OF 'laws.FnExactOpFault'. -/
def fnExactOpFaultUptoCard : Claim7 := { stood := { row := fnExactOpFaultUptoRow, standIns := [], harness := (true, "d68612591b4bcdbe02409fd3f1497402dab16756dd75979886b0d554d8970d1b"), looks := false }, kinds := [], alts := [], laidByText := true, laidKinds := [.data, .pinned], laidTests := true, laidLooks := .later }
def FnExactOpFaultUptoCardSaid : Prop := Claim7.holds Tryd.pinned (.plain (OpenSpec.upto fnExactOpFaultSpec)) fnExactOpFaultUptoCard

/-- THE SECOND FORM's CARD OF 'laws.FnExactIsMutation'. -/
def fnExactIsMutationUptoCard : Claim7 := { stood := { row := fnExactIsMutationUptoRow, standIns := [], harness := (true, "d68612591b4bcdbe02409fd3f1497402dab16756dd75979886b0d554d8970d1b"), looks := false }, kinds := [], alts := [], laidByText := true, laidKinds := [.data, .pinned], laidTests := true, laidLooks := .later }
def FnExactIsMutationUptoCardSaid : Prop := Claim7.holds Tryd.pinned (.plain (OpenSpec.upto fnExactIsMutationSpec)) fnExactIsMutationUptoCard

/-- THE SECOND FORM's CARD OF 'laws.FnExactEventFault'. -/
def fnExactEventFaultUptoCard : Claim7 := { stood := { row := fnExactEventFaultUptoRow, standIns := [], harness := (true, "d68612591b4bcdbe02409fd3f1497402dab16756dd75979886b0d554d8970d1b"), looks := false }, kinds := [], alts := [], laidByText := true, laidKinds := [.data, .pinned], laidTests := true, laidLooks := .later }
def FnExactEventFaultUptoCardSaid : Prop := Claim7.holds Tryd.pinned (.plain (OpenSpec.upto fnExactEventFaultSpec)) fnExactEventFaultUptoCard
end Rows
end Go.Proofs.YtcccpifecojijaaDoor
