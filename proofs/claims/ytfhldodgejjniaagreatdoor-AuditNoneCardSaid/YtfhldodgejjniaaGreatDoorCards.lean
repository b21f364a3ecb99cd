/-
  DERIVED. GIVEN WITH THE SEED: THE CARDS: each row of YtfhldodgejjniaaGreatDoorRows.lean that lists a variable, with what it lists TIED to the program's text (the seventh form; the later family's looks); each row that meets fmt, with fmt's text TOLD by the authors' own Lean function (tested against real Go, not proved from fmt's source: count such statements apart). THE CARD IS WHAT COUNTS. Prove the row's statement (the work); the ties are given (YtfhldodgejjniaaGreatDoorTie.lean); close each card by the builder's one call (the guide's Derived/Test/ToyasCard.lean, 'card_holds'). Laid BY PROGRAM, IN A SANDBOX (cutbox-door.mjs). By AI agents, Wed Nov 11 2026. No macro, syntax, notation, axiom, sorry.
-/
import Derived.Test.YtfhldodgejjniaaGreatDoorRows
import GoSem.ClaimSeven
namespace Go.Proofs.YtfhldodgejjniaaGreatDoor
namespace Rows

/-- THE TIED CARD OF 'watchwordlaw49.AuditChecks'. -/
def auditChecksCard : Claim7 := { stood := { row := auditChecksRow, standIns := [], harness := (true, "5a8f9a1410c7c661e37df53db649b61c8bd20a9a1e3f4e6cb047023fe78342cf"), looks := false }, kinds := [], alts := [], laidByText := true, laidKinds := [.data, .pinned], laidTests := true, laidLooks := .later }
def AuditChecksCardSaid : Prop := Claim7.holds Tryz.pinned (.plain (OpenSpec.ofChange auditChecksSpec)) auditChecksCard

/-- THE TIED CARD OF 'watchwordlaw49.AuditOwns'. -/
def auditOwnsCard : Claim7 := { stood := { row := auditOwnsRow, standIns := [], harness := (true, "5a8f9a1410c7c661e37df53db649b61c8bd20a9a1e3f4e6cb047023fe78342cf"), looks := false }, kinds := [], alts := [], laidByText := true, laidKinds := [.data, .pinned], laidTests := true, laidLooks := .later }
def AuditOwnsCardSaid : Prop := Claim7.holds Tryz.pinned (.plain (OpenSpec.ofChange auditOwnsSpec)) auditOwnsCard

/-- THE TIED CARD OF 'watchwordlaw49.AuditLoops'. -/
def auditLoopsCard : Claim7 := { stood := { row := auditLoopsRow, standIns := [], harness := (true, "5a8f9a1410c7c661e37df53db649b61c8bd20a9a1e3f4e6cb047023fe78342cf"), looks := false }, kinds := [], alts := [], laidByText := true, laidKinds := [.data, .pinned], laidTests := true, laidLooks := .later }
def AuditLoopsCardSaid : Prop := Claim7.holds Tryz.pinned (.plain (OpenSpec.ofChange auditLoopsSpec)) auditLoopsCard

/-- THE TIED CARD OF 'watchwordlaw49.AuditStays'. -/
def auditStaysCard : Claim7 := { stood := { row := auditStaysRow, standIns := [], harness := (true, "5a8f9a1410c7c661e37df53db649b61c8bd20a9a1e3f4e6cb047023fe78342cf"), looks := false }, kinds := [], alts := [], laidByText := true, laidKinds := [.data, .pinned], laidTests := true, laidLooks := .later }
def AuditStaysCardSaid : Prop := Claim7.holds Tryz.pinned (.plain (OpenSpec.ofChange auditStaysSpec)) auditStaysCard

/-- THE TIED CARD OF 'watchwordlaw49.AuditNone'. -/
def auditNoneCard : Claim7 := { stood := { row := auditNoneRow, standIns := [], harness := (true, "5a8f9a1410c7c661e37df53db649b61c8bd20a9a1e3f4e6cb047023fe78342cf"), looks := false }, kinds := [], alts := [], laidByText := true, laidKinds := [.data, .pinned], laidTests := true, laidLooks := .later }
def AuditNoneCardSaid : Prop := Claim7.holds Tryz.pinned (.plain (OpenSpec.ofChange auditNoneSpec)) auditNoneCard

/-- THE SECOND FORM's CARD OF 'watchwordlaw49.AuditChecks'. -/
def auditChecksUptoCard : Claim7 := { stood := { row := auditChecksUptoRow, standIns := [], harness := (true, "5a8f9a1410c7c661e37df53db649b61c8bd20a9a1e3f4e6cb047023fe78342cf"), looks := false }, kinds := [], alts := [], laidByText := true, laidKinds := [.data, .pinned], laidTests := true, laidLooks := .later }
def AuditChecksUptoCardSaid : Prop := Claim7.holds Tryz.pinned (.plain (OpenSpec.upto auditChecksSpec)) auditChecksUptoCard

/-- THE SECOND FORM's CARD OF 'watchwordlaw49.AuditOwns'. -/
def auditOwnsUptoCard : Claim7 := { stood := { row := auditOwnsUptoRow, standIns := [], harness := (true, "5a8f9a1410c7c661e37df53db649b61c8bd20a9a1e3f4e6cb047023fe78342cf"), looks := false }, kinds := [], alts := [], laidByText := true, laidKinds := [.data, .pinned], laidTests := true, laidLooks := .later }
def AuditOwnsUptoCardSaid : Prop := Claim7.holds Tryz.pinned (.plain (OpenSpec.upto auditOwnsSpec)) auditOwnsUptoCard

/-- THE SECOND FORM's CARD OF 'watchwordlaw49.AuditLoops'. -/
def auditLoopsUptoCard : Claim7 := { stood := { row := auditLoopsUptoRow, standIns := [], harness := (true, "5a8f9a1410c7c661e37df53db649b61c8bd20a9a1e3f4e6cb047023fe78342cf"), looks := false }, kinds := [], alts := [], laidByText := true, laidKinds := [.data, .pinned], laidTests := true, laidLooks := .later }
def AuditLoopsUptoCardSaid : Prop := Claim7.holds Tryz.pinned (.plain (OpenSpec.upto auditLoopsSpec)) auditLoopsUptoCard

/-- THE SECOND FORM's CARD OF 'watchwordlaw49.AuditStays'. -/
def auditStaysUptoCard : Claim7 := { stood := { row := auditStaysUptoRow, standIns := [], harness := (true, "5a8f9a1410c7c661e37df53db649b61c8bd20a9a1e3f4e6cb047023fe78342cf"), looks := false }, kinds := [], alts := [], laidByText := true, laidKinds := [.data, .pinned], laidTests := true, laidLooks := .later }
def AuditStaysUptoCardSaid : Prop := Claim7.holds Tryz.pinned (.plain (OpenSpec.upto auditStaysSpec)) auditStaysUptoCard

/-- THE SECOND FORM's CARD OF 'watchwordlaw49.AuditNone'. -/
def auditNoneUptoCard : Claim7 := { stood := { row := auditNoneUptoRow, standIns := [], harness := (true, "5a8f9a1410c7c661e37df53db649b61c8bd20a9a1e3f4e6cb047023fe78342cf"), looks := false }, kinds := [], alts := [], laidByText := true, laidKinds := [.data, .pinned], laidTests := true, laidLooks := .later }
def AuditNoneUptoCardSaid : Prop := Claim7.holds Tryz.pinned (.plain (OpenSpec.upto auditNoneSpec)) auditNoneUptoCard
end Rows
end Go.Proofs.YtfhldodgejjniaaGreatDoor
