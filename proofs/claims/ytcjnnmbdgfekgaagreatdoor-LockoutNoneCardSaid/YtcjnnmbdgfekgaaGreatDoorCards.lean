/-
  DERIVED. GIVEN WITH THE SEED: THE CARDS: each row of YtcjnnmbdgfekgaaGreatDoorRows.lean that lists a variable, with what it lists TIED to the program's text (the seventh form; the later family's looks); each row that meets fmt, with fmt's text TOLD by the authors' own Lean function (tested against real Go, not proved from fmt's source: count such statements apart). THE CARD IS WHAT COUNTS. Prove the row's statement (the work); the ties are given (YtcjnnmbdgfekgaaGreatDoorTie.lean); close each card by the builder's one call (the guide's Derived/Test/ToyasCard.lean, 'card_holds'). Laid BY PROGRAM, IN A SANDBOX (cutbox-door.mjs). By AI agents, Wed Nov 11 2026. No macro, syntax, notation, axiom, sorry.
-/
import Derived.Test.YtcjnnmbdgfekgaaGreatDoorRows
import GoSem.ClaimSeven
namespace Go.Proofs.YtcjnnmbdgfekgaaGreatDoor
namespace Rows

/-- THE TIED CARD OF 'watchwordlaw28.LockoutCounts'. -/
def lockoutCountsCard : Claim7 := { stood := { row := lockoutCountsRow, standIns := [], harness := (true, "8635963aa446c466d467c1bcf53a0b70a4ce9da9f014669275644cab42f611d1"), looks := true }, kinds := [], alts := [], laidByText := true, laidKinds := [.data, .data, .pinned], laidTests := true, laidLooks := .later }
def LockoutCountsCardSaid : Prop := Claim7.holds Tryz.pinned (.plain (OpenSpec.ofChange lockoutCountsSpec)) lockoutCountsCard

/-- THE TIED CARD OF 'watchwordlaw28.LockoutAttempts'. -/
def lockoutAttemptsCard : Claim7 := { stood := { row := lockoutAttemptsRow, standIns := [], harness := (true, "8635963aa446c466d467c1bcf53a0b70a4ce9da9f014669275644cab42f611d1"), looks := true }, kinds := [], alts := [], laidByText := true, laidKinds := [.data, .data, .pinned], laidTests := true, laidLooks := .later }
def LockoutAttemptsCardSaid : Prop := Claim7.holds Tryz.pinned (.plain (OpenSpec.ofChange lockoutAttemptsSpec)) lockoutAttemptsCard

/-- THE TIED CARD OF 'watchwordlaw28.LockoutRecords'. -/
def lockoutRecordsCard : Claim7 := { stood := { row := lockoutRecordsRow, standIns := [], harness := (true, "8635963aa446c466d467c1bcf53a0b70a4ce9da9f014669275644cab42f611d1"), looks := true }, kinds := [], alts := [], laidByText := true, laidKinds := [.data, .data, .data, .data, .data, .pinned], laidTests := true, laidLooks := .later }
def LockoutRecordsCardSaid : Prop := Claim7.holds Tryz.pinned (.plain (OpenSpec.ofChange lockoutRecordsSpec)) lockoutRecordsCard

/-- THE TIED CARD OF 'watchwordlaw28.LockoutAccounts'. -/
def lockoutAccountsCard : Claim7 := { stood := { row := lockoutAccountsRow, standIns := [], harness := (true, "8635963aa446c466d467c1bcf53a0b70a4ce9da9f014669275644cab42f611d1"), looks := true }, kinds := [], alts := [], laidByText := true, laidKinds := [.data, .data, .pinned], laidTests := true, laidLooks := .later }
def LockoutAccountsCardSaid : Prop := Claim7.holds Tryz.pinned (.plain (OpenSpec.ofChange lockoutAccountsSpec)) lockoutAccountsCard

/-- THE TIED CARD OF 'watchwordlaw28.LockoutHolds'. -/
def lockoutHoldsCard : Claim7 := { stood := { row := lockoutHoldsRow, standIns := [], harness := (true, "8635963aa446c466d467c1bcf53a0b70a4ce9da9f014669275644cab42f611d1"), looks := true }, kinds := [], alts := [], laidByText := true, laidKinds := [.data, .data, .pinned], laidTests := true, laidLooks := .later }
def LockoutHoldsCardSaid : Prop := Claim7.holds Tryz.pinned (.plain (OpenSpec.ofChange lockoutHoldsSpec)) lockoutHoldsCard

/-- THE TIED CARD OF 'watchwordlaw28.LockoutNone'. -/
def lockoutNoneCard : Claim7 := { stood := { row := lockoutNoneRow, standIns := [], harness := (true, "8635963aa446c466d467c1bcf53a0b70a4ce9da9f014669275644cab42f611d1"), looks := true }, kinds := [], alts := [], laidByText := true, laidKinds := [.data, .data, .pinned], laidTests := true, laidLooks := .later }
def LockoutNoneCardSaid : Prop := Claim7.holds Tryz.pinned (.plain (OpenSpec.ofChange lockoutNoneSpec)) lockoutNoneCard

/-- THE SECOND FORM's CARD OF 'watchwordlaw28.LockoutCounts'. -/
def lockoutCountsUptoCard : Claim7 := { stood := { row := lockoutCountsUptoRow, standIns := [], harness := (true, "8635963aa446c466d467c1bcf53a0b70a4ce9da9f014669275644cab42f611d1"), looks := true }, kinds := [], alts := [], laidByText := true, laidKinds := [.data, .data, .pinned], laidTests := true, laidLooks := .later }
def LockoutCountsUptoCardSaid : Prop := Claim7.holds Tryz.pinned (.plain (OpenSpec.upto lockoutCountsSpec)) lockoutCountsUptoCard

/-- THE SECOND FORM's CARD OF 'watchwordlaw28.LockoutAttempts'. -/
def lockoutAttemptsUptoCard : Claim7 := { stood := { row := lockoutAttemptsUptoRow, standIns := [], harness := (true, "8635963aa446c466d467c1bcf53a0b70a4ce9da9f014669275644cab42f611d1"), looks := true }, kinds := [], alts := [], laidByText := true, laidKinds := [.data, .data, .pinned], laidTests := true, laidLooks := .later }
def LockoutAttemptsUptoCardSaid : Prop := Claim7.holds Tryz.pinned (.plain (OpenSpec.upto lockoutAttemptsSpec)) lockoutAttemptsUptoCard

/-- THE SECOND FORM's CARD OF 'watchwordlaw28.LockoutRecords'. -/
def lockoutRecordsUptoCard : Claim7 := { stood := { row := lockoutRecordsUptoRow, standIns := [], harness := (true, "8635963aa446c466d467c1bcf53a0b70a4ce9da9f014669275644cab42f611d1"), looks := true }, kinds := [], alts := [], laidByText := true, laidKinds := [.data, .data, .data, .data, .data, .pinned], laidTests := true, laidLooks := .later }
def LockoutRecordsUptoCardSaid : Prop := Claim7.holds Tryz.pinned (.plain (OpenSpec.upto lockoutRecordsSpec)) lockoutRecordsUptoCard

/-- THE SECOND FORM's CARD OF 'watchwordlaw28.LockoutAccounts'. -/
def lockoutAccountsUptoCard : Claim7 := { stood := { row := lockoutAccountsUptoRow, standIns := [], harness := (true, "8635963aa446c466d467c1bcf53a0b70a4ce9da9f014669275644cab42f611d1"), looks := true }, kinds := [], alts := [], laidByText := true, laidKinds := [.data, .data, .pinned], laidTests := true, laidLooks := .later }
def LockoutAccountsUptoCardSaid : Prop := Claim7.holds Tryz.pinned (.plain (OpenSpec.upto lockoutAccountsSpec)) lockoutAccountsUptoCard

/-- THE SECOND FORM's CARD OF 'watchwordlaw28.LockoutHolds'. -/
def lockoutHoldsUptoCard : Claim7 := { stood := { row := lockoutHoldsUptoRow, standIns := [], harness := (true, "8635963aa446c466d467c1bcf53a0b70a4ce9da9f014669275644cab42f611d1"), looks := true }, kinds := [], alts := [], laidByText := true, laidKinds := [.data, .data, .pinned], laidTests := true, laidLooks := .later }
def LockoutHoldsUptoCardSaid : Prop := Claim7.holds Tryz.pinned (.plain (OpenSpec.upto lockoutHoldsSpec)) lockoutHoldsUptoCard

/-- THE SECOND FORM's CARD OF 'watchwordlaw28.LockoutNone'. -/
def lockoutNoneUptoCard : Claim7 := { stood := { row := lockoutNoneUptoRow, standIns := [], harness := (true, "8635963aa446c466d467c1bcf53a0b70a4ce9da9f014669275644cab42f611d1"), looks := true }, kinds := [], alts := [], laidByText := true, laidKinds := [.data, .data, .pinned], laidTests := true, laidLooks := .later }
def LockoutNoneUptoCardSaid : Prop := Claim7.holds Tryz.pinned (.plain (OpenSpec.upto lockoutNoneSpec)) lockoutNoneUptoCard
end Rows
end Go.Proofs.YtcjnnmbdgfekgaaGreatDoor
