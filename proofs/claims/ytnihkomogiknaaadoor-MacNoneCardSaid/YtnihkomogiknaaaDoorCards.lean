/-
  DERIVED. GIVEN WITH THE SEED: THE CARDS: each row of YtnihkomogiknaaaDoorRows.lean that lists a variable, with what it lists TIED to the program's text (the seventh form; the later family's looks); each row that meets fmt, with fmt's text TOLD by the authors' own Lean function (tested against real Go, not proved from fmt's source: count such statements apart). THE CARD IS WHAT COUNTS. Prove the row's statement (the work); the ties are given (YtnihkomogiknaaaDoorTie.lean); close each card by the builder's one call (the guide's Derived/Test/ToyasCard.lean, 'card_holds'). Laid BY PROGRAM, IN A SANDBOX (cutbox-door.mjs). By AI agents, Wed Nov 11 2026. No macro, syntax, notation, axiom, sorry.
-/
import Derived.Test.YtnihkomogiknaaaDoorRows
import GoSem.ClaimSeven
namespace Go.Proofs.YtnihkomogiknaaaDoor
namespace Rows

/-- THE TIED CARD OF 'watchwordlaw05.MacNone'. -/
def macNoneCard : Claim7 := { stood := { row := macNoneRow, standIns := [], harness := (true, "78d3d890199de0cb4f36963090b107784c8d0dc3d6e1d06eec6a6f7ce6d9632d"), looks := false }, kinds := [], alts := [], laidByText := true, laidKinds := [.data], laidTests := true, laidLooks := .later }
def MacNoneCardSaid : Prop := Claim7.holds Tryd.pinned (.plain (OpenSpec.ofChange macNoneSpec)) macNoneCard

/-- THE SECOND FORM's CARD OF 'watchwordlaw05.MacNone'. -/
def macNoneUptoCard : Claim7 := { stood := { row := macNoneUptoRow, standIns := [], harness := (true, "78d3d890199de0cb4f36963090b107784c8d0dc3d6e1d06eec6a6f7ce6d9632d"), looks := false }, kinds := [], alts := [], laidByText := true, laidKinds := [.data], laidTests := true, laidLooks := .later }
def MacNoneUptoCardSaid : Prop := Claim7.holds Tryd.pinned (.plain (OpenSpec.upto macNoneSpec)) macNoneUptoCard
end Rows
end Go.Proofs.YtnihkomogiknaaaDoor
