/-
  DERIVED. GIVEN WITH THE SEED: THE CARDS: each row of YtcmekhpphgkglaaDoorRows.lean that lists a variable, with what it lists TIED to the program's text (the seventh form; the later family's looks); each row that meets fmt, with fmt's text TOLD by the authors' own Lean function (tested against real Go, not proved from fmt's source: count such statements apart). THE CARD IS WHAT COUNTS. Prove the row's statement (the work); the ties are given (YtcmekhpphgkglaaDoorTie.lean); close each card by the builder's one call (the guide's Derived/Test/ToyasCard.lean, 'card_holds'). Laid BY PROGRAM, IN A SANDBOX (cutbox-door.mjs). By AI agents, Wed Nov 11 2026. No macro, syntax, notation, axiom, sorry.
-/
import Derived.Test.YtcmekhpphgkglaaDoorRows
import GoSem.ClaimSeven
namespace Go.Proofs.YtcmekhpphgkglaaDoor
namespace Rows

/-- THE TIED CARD OF 'laws.FnExactItemsFault'. -/
def fnExactItemsFaultCard : Claim7 := { stood := { row := fnExactItemsFaultRow, standIns := [], harness := (true, "5c218c6a691d1728ef2973db9e1d7d3c59f21762c0679d80f28f1ac511290b97"), looks := false }, kinds := [], alts := [], laidByText := true, laidKinds := [.data, .pinned], laidTests := true, laidLooks := .later }
def FnExactItemsFaultCardSaid : Prop := Claim7.holds Tryd.pinned (.plain (OpenSpec.ofChange fnExactItemsFaultSpec)) fnExactItemsFaultCard

/-- THE TIED CARD OF 'laws.FnExactNotesFault'. -/
def fnExactNotesFaultCard : Claim7 := { stood := { row := fnExactNotesFaultRow, standIns := [], harness := (true, "5c218c6a691d1728ef2973db9e1d7d3c59f21762c0679d80f28f1ac511290b97"), looks := false }, kinds := [], alts := [], laidByText := true, laidKinds := [.data, .pinned], laidTests := true, laidLooks := .later }
def FnExactNotesFaultCardSaid : Prop := Claim7.holds Tryd.pinned (.plain (OpenSpec.ofChange fnExactNotesFaultSpec)) fnExactNotesFaultCard

/-- THE SECOND FORM's CARD OF 'laws.FnExactItemsFault'. -/
def fnExactItemsFaultUptoCard : Claim7 := { stood := { row := fnExactItemsFaultUptoRow, standIns := [], harness := (true, "5c218c6a691d1728ef2973db9e1d7d3c59f21762c0679d80f28f1ac511290b97"), looks := false }, kinds := [], alts := [], laidByText := true, laidKinds := [.data, .pinned], laidTests := true, laidLooks := .later }
def FnExactItemsFaultUptoCardSaid : Prop := Claim7.holds Tryd.pinned (.plain (OpenSpec.upto fnExactItemsFaultSpec)) fnExactItemsFaultUptoCard

/-- THE SECOND FORM's CARD OF 'laws.FnExactNotesFault'. -/
def fnExactNotesFaultUptoCard : Claim7 := { stood := { row := fnExactNotesFaultUptoRow, standIns := [], harness := (true, "5c218c6a691d1728ef2973db9e1d7d3c59f21762c0679d80f28f1ac511290b97"), looks := false }, kinds := [], alts := [], laidByText := true, laidKinds := [.data, .pinned], laidTests := true, laidLooks := .later }
def FnExactNotesFaultUptoCardSaid : Prop := Claim7.holds Tryd.pinned (.plain (OpenSpec.upto fnExactNotesFaultSpec)) fnExactNotesFaultUptoCard
end Rows
end Go.Proofs.YtcmekhpphgkglaaDoor
