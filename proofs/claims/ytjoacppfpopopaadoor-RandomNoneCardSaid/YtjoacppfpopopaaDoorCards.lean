/-
  DERIVED. GIVEN WITH THE SEED: THE CARDS: each row of YtjoacppfpopopaaDoorRows.lean that lists a variable, with what it lists TIED to the program's text (the seventh form; the later family's looks); each row that meets fmt, with fmt's text TOLD by the authors' own Lean function (tested against real Go, not proved from fmt's source: count such statements apart). THE CARD IS WHAT COUNTS. Prove the row's statement (the work); the ties are given (YtjoacppfpopopaaDoorTie.lean); close each card by the builder's one call (the guide's Derived/Test/ToyasCard.lean, 'card_holds'). Laid BY PROGRAM, IN A SANDBOX (cutbox-door.mjs). By AI agents, Wed Nov 11 2026. No macro, syntax, notation, axiom, sorry.
-/
import Derived.Test.YtjoacppfpopopaaDoorRows
import GoSem.ClaimSeven
namespace Go.Proofs.YtjoacppfpopopaaDoor
namespace Rows

/-- THE TIED CARD OF 'watchwordlaw10.RandomNone'. -/
def randomNoneCard : Claim7 := { stood := { row := randomNoneRow, standIns := [], harness := (true, "51d48bc4d9149791981d0b6b5a7797f0cedab02cd1db7bdd123a972381fbffb9"), looks := false }, kinds := [], alts := [], laidByText := true, laidKinds := [.data], laidTests := true, laidLooks := .later }
def RandomNoneCardSaid : Prop := Claim7.holds Tryd.pinned (.plain (OpenSpec.ofChange randomNoneSpec)) randomNoneCard

/-- THE SECOND FORM's CARD OF 'watchwordlaw10.RandomNone'. -/
def randomNoneUptoCard : Claim7 := { stood := { row := randomNoneUptoRow, standIns := [], harness := (true, "51d48bc4d9149791981d0b6b5a7797f0cedab02cd1db7bdd123a972381fbffb9"), looks := false }, kinds := [], alts := [], laidByText := true, laidKinds := [.data], laidTests := true, laidLooks := .later }
def RandomNoneUptoCardSaid : Prop := Claim7.holds Tryd.pinned (.plain (OpenSpec.upto randomNoneSpec)) randomNoneUptoCard
end Rows
end Go.Proofs.YtjoacppfpopopaaDoor
