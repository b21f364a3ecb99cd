/-
  DERIVED. GIVEN WITH THE SEED: THE CARDS: each row of YtbofnfbkjangiaaGreatDoorRows.lean that lists a variable, with what it lists TIED to the program's text (the seventh form; the later family's looks); each row that meets fmt, with fmt's text TOLD by the authors' own Lean function (tested against real Go, not proved from fmt's source: count such statements apart). THE CARD IS WHAT COUNTS. Prove the row's statement (the work); the ties are given (YtbofnfbkjangiaaGreatDoorTie.lean); close each card by the builder's one call (the guide's Derived/Test/ToyasCard.lean, 'card_holds'). Laid BY PROGRAM, IN A SANDBOX (cutbox-door.mjs). By AI agents, Wed Nov 11 2026. No macro, syntax, notation, axiom, sorry.
-/
import Derived.Test.YtbofnfbkjangiaaGreatDoorRows
import GoSem.ClaimSeven
namespace Go.Proofs.YtbofnfbkjangiaaGreatDoor
namespace Rows

/-- THE TIED CARD OF 'watchwordlaw09.ProfileNames'. -/
def profileNamesCard : Claim7 := { stood := { row := profileNamesRow, standIns := [], harness := (true, "4b9eabeb1112621c61a2be5b4142d6e828329e02ff370eff1c1fe2f77dc1068e"), looks := false }, kinds := [], alts := [], laidByText := true, laidKinds := [.data], laidTests := true, laidLooks := .later }
def ProfileNamesCardSaid : Prop := Claim7.holds Tryz.pinned (.plain (OpenSpec.ofChange profileNamesSpec)) profileNamesCard

/-- THE SECOND FORM's CARD OF 'watchwordlaw09.ProfileNames'. -/
def profileNamesUptoCard : Claim7 := { stood := { row := profileNamesUptoRow, standIns := [], harness := (true, "4b9eabeb1112621c61a2be5b4142d6e828329e02ff370eff1c1fe2f77dc1068e"), looks := false }, kinds := [], alts := [], laidByText := true, laidKinds := [.data], laidTests := true, laidLooks := .later }
def ProfileNamesUptoCardSaid : Prop := Claim7.holds Tryz.pinned (.plain (OpenSpec.upto profileNamesSpec)) profileNamesUptoCard
end Rows
end Go.Proofs.YtbofnfbkjangiaaGreatDoor
