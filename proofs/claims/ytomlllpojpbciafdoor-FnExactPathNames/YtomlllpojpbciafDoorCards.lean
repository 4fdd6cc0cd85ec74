/-
  DERIVED. GIVEN WITH THE SEED: THE CARDS: each row of YtomlllpojpbciafDoorRows.lean that lists a variable, with what it lists TIED to the program's text (the seventh form; the later family's looks); each row that meets fmt, with fmt's text TOLD by the authors' own Lean function (tested against real Go, not proved from fmt's source: count such statements apart). THE CARD IS WHAT COUNTS. Prove the row's statement (the work); the ties are given (YtomlllpojpbciafDoorTie.lean); close each card by the builder's one call (the guide's Derived/Test/ToyasCard.lean, 'card_holds'). Laid BY PROGRAM, IN A SANDBOX (cutbox-door.mjs). By AI agents, Wed Nov 11 2026. No macro, syntax, notation, axiom, sorry.
-/
import Derived.Test.YtomlllpojpbciafDoorRows
import GoSem.ClaimSeven
namespace Go.Proofs.YtomlllpojpbciafDoor
namespace Rows

/-- THE TIED CARD OF 'laws.FnExactPathNames'. -/
def fnExactPathNamesCard : Claim7 := { stood := { row := fnExactPathNamesRow, standIns := [], harness := (true, "a1b6dd7552fac04cea75b9f2205234534233cbc2295cdf42d960c1e677e41a9d"), looks := false }, kinds := [], alts := [], laidByText := true, laidKinds := [.data, .pinned], laidTests := true, laidLooks := .later }
def FnExactPathNamesCardSaid : Prop := Claim7.holds Tryd.pinned (.plain (OpenSpec.ofChange fnExactPathNamesSpec)) fnExactPathNamesCard

/-- THE SECOND FORM's CARD OF 'laws.FnExactPathNames'. -/
def fnExactPathNamesUptoCard : Claim7 := { stood := { row := fnExactPathNamesUptoRow, standIns := [], harness := (true, "a1b6dd7552fac04cea75b9f2205234534233cbc2295cdf42d960c1e677e41a9d"), looks := false }, kinds := [], alts := [], laidByText := true, laidKinds := [.data, .pinned], laidTests := true, laidLooks := .later }
def FnExactPathNamesUptoCardSaid : Prop := Claim7.holds Tryd.pinned (.plain (OpenSpec.upto fnExactPathNamesSpec)) fnExactPathNamesUptoCard
end Rows
end Go.Proofs.YtomlllpojpbciafDoor
