/-
  DERIVED. GIVEN WITH THE SEED: THE CARDS: each row of YtbmcofdodfcnnaaGreatDoorRows.lean that lists a variable, with what it lists TIED to the program's text (the seventh form; the later family's looks); each row that meets fmt, with fmt's text TOLD by the authors' own Lean function (tested against real Go, not proved from fmt's source: count such statements apart). THE CARD IS WHAT COUNTS. Prove the row's statement (the work); the ties are given (YtbmcofdodfcnnaaGreatDoorTie.lean); close each card by the builder's one call (the guide's Derived/Test/ToyasCard.lean, 'card_holds'). Laid BY PROGRAM, IN A SANDBOX (cutbox-door.mjs). By AI agents, Wed Nov 11 2026. No macro, syntax, notation, axiom, sorry.
-/
import Derived.Test.YtbmcofdodfcnnaaGreatDoorRows
import GoSem.ClaimSeven
namespace Go.Proofs.YtbmcofdodfcnnaaGreatDoor
namespace Rows

/-- THE TIED CARD OF 'pinionlaw.Codes'. -/
def codesCard : Claim7 := { stood := { row := codesRow, standIns := [], harness := (true, "e457408564c1f0f067a55ff661532077e8204f5842d1abf249baeb5cf9a9a51f"), looks := true }, kinds := [], alts := [], laidByText := true, laidKinds := [.data, .data, .data, .data, .sentinel, .sentinel, .pinned], laidTests := true, laidLooks := .later }
def CodesCardSaid : Prop := Claim7.holds Tryz.pinned (.plain (OpenSpec.ofChange codesSpec)) codesCard

/-- THE TIED CARD OF 'pinionlaw.Programs'. -/
def programsCard : Claim7 := { stood := { row := programsRow, standIns := [], harness := (true, "e457408564c1f0f067a55ff661532077e8204f5842d1abf249baeb5cf9a9a51f"), looks := true }, kinds := [], alts := [], laidByText := true, laidKinds := [.data, .data, .data, .data, .sentinel, .sentinel, .pinned], laidTests := true, laidLooks := .later }
def ProgramsCardSaid : Prop := Claim7.holds Tryz.pinned (.plain (OpenSpec.ofChange programsSpec)) programsCard

/-- THE TIED CARD OF 'pinionlaw.All'. -/
def allCard : Claim7 := { stood := { row := allRow, standIns := [], harness := (true, "e457408564c1f0f067a55ff661532077e8204f5842d1abf249baeb5cf9a9a51f"), looks := true }, kinds := [], alts := [], laidByText := true, laidKinds := [.data, .data, .data, .data, .sentinel, .sentinel, .pinned], laidTests := true, laidLooks := .later }
def AllCardSaid : Prop := Claim7.holds Tryz.pinned (.plain (OpenSpec.ofChange allSpec)) allCard

/-- THE TIED CARD OF 'pinionkeep.Back'. -/
def backCard : Claim7 := { stood := { row := backRow, standIns := [], harness := (true, "e457408564c1f0f067a55ff661532077e8204f5842d1abf249baeb5cf9a9a51f"), looks := true }, kinds := [], alts := [], laidByText := true, laidKinds := [.data, .data, .data, .data, .sentinel, .sentinel, .pinned], laidTests := true, laidLooks := .later }
def BackCardSaid : Prop := Claim7.holds Tryz.pinned (.plain (OpenSpec.ofChange backSpec)) backCard

/-- THE TIED CARD OF 'pinionkeep.Lossless'. -/
def losslessCard : Claim7 := { stood := { row := losslessRow, standIns := [], harness := (true, "e457408564c1f0f067a55ff661532077e8204f5842d1abf249baeb5cf9a9a51f"), looks := true }, kinds := [], alts := [], laidByText := true, laidKinds := [.data, .data, .data, .data, .sentinel, .sentinel, .pinned], laidTests := true, laidLooks := .later }
def LosslessCardSaid : Prop := Claim7.holds Tryz.pinned (.plain (OpenSpec.ofChange losslessSpec)) losslessCard

/-- THE TIED CARD OF 'pinionkeep.Shrunk'. -/
def shrunkCard : Claim7 := { stood := { row := shrunkRow, standIns := [], harness := (true, "e457408564c1f0f067a55ff661532077e8204f5842d1abf249baeb5cf9a9a51f"), looks := true }, kinds := [], alts := [], laidByText := true, laidKinds := [.data, .data, .data, .data, .sentinel, .sentinel, .pinned], laidTests := true, laidLooks := .later }
def ShrunkCardSaid : Prop := Claim7.holds Tryz.pinned (.plain (OpenSpec.ofChange shrunkSpec)) shrunkCard

/-- THE TIED CARD OF 'pinionkeep.SameRun'. -/
def sameRunCard : Claim7 := { stood := { row := sameRunRow, standIns := [], harness := (true, "e457408564c1f0f067a55ff661532077e8204f5842d1abf249baeb5cf9a9a51f"), looks := true }, kinds := [], alts := [], laidByText := true, laidKinds := [.data, .data, .data, .data, .sentinel, .sentinel, .pinned], laidTests := true, laidLooks := .later }
def SameRunCardSaid : Prop := Claim7.holds Tryz.pinned (.plain (OpenSpec.ofChange sameRunSpec)) sameRunCard

/-- THE TIED CARD OF 'pinionkeep.Divided'. -/
def dividedCard : Claim7 := { stood := { row := dividedRow, standIns := [], harness := (true, "e457408564c1f0f067a55ff661532077e8204f5842d1abf249baeb5cf9a9a51f"), looks := true }, kinds := [], alts := [], laidByText := true, laidKinds := [.data, .data, .data, .data, .sentinel, .sentinel, .pinned], laidTests := true, laidLooks := .later }
def DividedCardSaid : Prop := Claim7.holds Tryz.pinned (.plain (OpenSpec.ofChange dividedSpec)) dividedCard

/-- THE TIED CARD OF 'pinionkeep.Stored'. -/
def storedCard : Claim7 := { stood := { row := storedRow, standIns := [], harness := (true, "e457408564c1f0f067a55ff661532077e8204f5842d1abf249baeb5cf9a9a51f"), looks := true }, kinds := [], alts := [], laidByText := true, laidKinds := [.data, .data, .data, .data, .sentinel, .sentinel, .pinned], laidTests := true, laidLooks := .later }
def StoredCardSaid : Prop := Claim7.holds Tryz.pinned (.plain (OpenSpec.ofChange storedSpec)) storedCard

/-- THE SECOND FORM's CARD OF 'pinionlaw.Codes'. -/
def codesUptoCard : Claim7 := { stood := { row := codesUptoRow, standIns := [], harness := (true, "e457408564c1f0f067a55ff661532077e8204f5842d1abf249baeb5cf9a9a51f"), looks := true }, kinds := [], alts := [], laidByText := true, laidKinds := [.data, .data, .data, .data, .sentinel, .sentinel, .pinned], laidTests := true, laidLooks := .later }
def CodesUptoCardSaid : Prop := Claim7.holds Tryz.pinned (.plain (OpenSpec.upto codesSpec)) codesUptoCard

/-- THE SECOND FORM's CARD OF 'pinionlaw.Programs'. -/
def programsUptoCard : Claim7 := { stood := { row := programsUptoRow, standIns := [], harness := (true, "e457408564c1f0f067a55ff661532077e8204f5842d1abf249baeb5cf9a9a51f"), looks := true }, kinds := [], alts := [], laidByText := true, laidKinds := [.data, .data, .data, .data, .sentinel, .sentinel, .pinned], laidTests := true, laidLooks := .later }
def ProgramsUptoCardSaid : Prop := Claim7.holds Tryz.pinned (.plain (OpenSpec.upto programsSpec)) programsUptoCard

/-- THE SECOND FORM's CARD OF 'pinionlaw.All'. -/
def allUptoCard : Claim7 := { stood := { row := allUptoRow, standIns := [], harness := (true, "e457408564c1f0f067a55ff661532077e8204f5842d1abf249baeb5cf9a9a51f"), looks := true }, kinds := [], alts := [], laidByText := true, laidKinds := [.data, .data, .data, .data, .sentinel, .sentinel, .pinned], laidTests := true, laidLooks := .later }
def AllUptoCardSaid : Prop := Claim7.holds Tryz.pinned (.plain (OpenSpec.upto allSpec)) allUptoCard

/-- THE SECOND FORM's CARD OF 'pinionkeep.Back'. -/
def backUptoCard : Claim7 := { stood := { row := backUptoRow, standIns := [], harness := (true, "e457408564c1f0f067a55ff661532077e8204f5842d1abf249baeb5cf9a9a51f"), looks := true }, kinds := [], alts := [], laidByText := true, laidKinds := [.data, .data, .data, .data, .sentinel, .sentinel, .pinned], laidTests := true, laidLooks := .later }
def BackUptoCardSaid : Prop := Claim7.holds Tryz.pinned (.plain (OpenSpec.upto backSpec)) backUptoCard

/-- THE SECOND FORM's CARD OF 'pinionkeep.Lossless'. -/
def losslessUptoCard : Claim7 := { stood := { row := losslessUptoRow, standIns := [], harness := (true, "e457408564c1f0f067a55ff661532077e8204f5842d1abf249baeb5cf9a9a51f"), looks := true }, kinds := [], alts := [], laidByText := true, laidKinds := [.data, .data, .data, .data, .sentinel, .sentinel, .pinned], laidTests := true, laidLooks := .later }
def LosslessUptoCardSaid : Prop := Claim7.holds Tryz.pinned (.plain (OpenSpec.upto losslessSpec)) losslessUptoCard

/-- THE SECOND FORM's CARD OF 'pinionkeep.Shrunk'. -/
def shrunkUptoCard : Claim7 := { stood := { row := shrunkUptoRow, standIns := [], harness := (true, "e457408564c1f0f067a55ff661532077e8204f5842d1abf249baeb5cf9a9a51f"), looks := true }, kinds := [], alts := [], laidByText := true, laidKinds := [.data, .data, .data, .data, .sentinel, .sentinel, .pinned], laidTests := true, laidLooks := .later }
def ShrunkUptoCardSaid : Prop := Claim7.holds Tryz.pinned (.plain (OpenSpec.upto shrunkSpec)) shrunkUptoCard

/-- THE SECOND FORM's CARD OF 'pinionkeep.SameRun'. -/
def sameRunUptoCard : Claim7 := { stood := { row := sameRunUptoRow, standIns := [], harness := (true, "e457408564c1f0f067a55ff661532077e8204f5842d1abf249baeb5cf9a9a51f"), looks := true }, kinds := [], alts := [], laidByText := true, laidKinds := [.data, .data, .data, .data, .sentinel, .sentinel, .pinned], laidTests := true, laidLooks := .later }
def SameRunUptoCardSaid : Prop := Claim7.holds Tryz.pinned (.plain (OpenSpec.upto sameRunSpec)) sameRunUptoCard

/-- THE SECOND FORM's CARD OF 'pinionkeep.Divided'. -/
def dividedUptoCard : Claim7 := { stood := { row := dividedUptoRow, standIns := [], harness := (true, "e457408564c1f0f067a55ff661532077e8204f5842d1abf249baeb5cf9a9a51f"), looks := true }, kinds := [], alts := [], laidByText := true, laidKinds := [.data, .data, .data, .data, .sentinel, .sentinel, .pinned], laidTests := true, laidLooks := .later }
def DividedUptoCardSaid : Prop := Claim7.holds Tryz.pinned (.plain (OpenSpec.upto dividedSpec)) dividedUptoCard

/-- THE SECOND FORM's CARD OF 'pinionkeep.Stored'. -/
def storedUptoCard : Claim7 := { stood := { row := storedUptoRow, standIns := [], harness := (true, "e457408564c1f0f067a55ff661532077e8204f5842d1abf249baeb5cf9a9a51f"), looks := true }, kinds := [], alts := [], laidByText := true, laidKinds := [.data, .data, .data, .data, .sentinel, .sentinel, .pinned], laidTests := true, laidLooks := .later }
def StoredUptoCardSaid : Prop := Claim7.holds Tryz.pinned (.plain (OpenSpec.upto storedSpec)) storedUptoCard
end Rows
end Go.Proofs.YtbmcofdodfcnnaaGreatDoor
