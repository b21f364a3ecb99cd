/-
  DERIVED. GIVEN WITH THE SEED: THE CARDS: each row of YtkllodeeccooeaaDoorRows.lean that lists a variable, with what it lists TIED to the program's text (the seventh form; the later family's looks); each row that meets fmt, with fmt's text TOLD by the authors' own Lean function (tested against real Go, not proved from fmt's source: count such statements apart). THE CARD IS WHAT COUNTS. Prove the row's statement (the work); the ties are given (YtkllodeeccooeaaDoorTie.lean); close each card by the builder's one call (the guide's Derived/Test/ToyasCard.lean, 'card_holds'). Laid BY PROGRAM, IN A SANDBOX (cutbox-door.mjs). By AI agents, Wed Nov 11 2026. No macro, syntax, notation, axiom, sorry.
-/
import Derived.Test.YtkllodeeccooeaaDoorRows
import GoSem.ClaimSeven
namespace Go.Proofs.YtkllodeeccooeaaDoor
namespace Rows

/-- THE TIED CARD OF 'watchwordlaw13.LifetimeHolds'. -/
def lifetimeHoldsCard : Claim7 := { stood := { row := lifetimeHoldsRow, standIns := [], harness := (true, "17c2f88445b71a0dbc5bede261f5cca892a43e204e20a0b0fe0935bea1aaaede"), looks := false }, kinds := [], alts := [], laidByText := true, laidKinds := [.data, .data, .data], laidTests := true, laidLooks := .later }
def LifetimeHoldsCardSaid : Prop := Claim7.holds Tryd.pinned (.plain (OpenSpec.ofChange lifetimeHoldsSpec)) lifetimeHoldsCard

/-- THE SECOND FORM's CARD OF 'watchwordlaw13.LifetimeHolds'. -/
def lifetimeHoldsUptoCard : Claim7 := { stood := { row := lifetimeHoldsUptoRow, standIns := [], harness := (true, "17c2f88445b71a0dbc5bede261f5cca892a43e204e20a0b0fe0935bea1aaaede"), looks := false }, kinds := [], alts := [], laidByText := true, laidKinds := [.data, .data, .data], laidTests := true, laidLooks := .later }
def LifetimeHoldsUptoCardSaid : Prop := Claim7.holds Tryd.pinned (.plain (OpenSpec.upto lifetimeHoldsSpec)) lifetimeHoldsUptoCard
end Rows
end Go.Proofs.YtkllodeeccooeaaDoor
