/-
  DERIVED. GIVEN WITH THE SEED: THE CARDS: each row of YtnkpcolkhmphmaaDoorRows.lean that lists a variable, with what it lists TIED to the program's text (the seventh form; the later family's looks); each row that meets fmt, with fmt's text TOLD by the authors' own Lean function (tested against real Go, not proved from fmt's source: count such statements apart). THE CARD IS WHAT COUNTS. Prove the row's statement (the work); the ties are given (YtnkpcolkhmphmaaDoorTie.lean); close each card by the builder's one call (the guide's Derived/Test/ToyasCard.lean, 'card_holds'). Laid BY PROGRAM, IN A SANDBOX (cutbox-door.mjs). By AI agents, Wed Nov 11 2026. No macro, syntax, notation, axiom, sorry.
-/
import Derived.Test.YtnkpcolkhmphmaaDoorRows
import GoSem.ClaimSeven
namespace Go.Proofs.YtnkpcolkhmphmaaDoor
namespace Rows

/-- THE TIED CARD OF 'baileylaw22.ChainLinks'. -/
def chainLinksCard : Claim7 := { stood := { row := chainLinksRow, standIns := [], harness := (true, "d37dbcd96c06bbd0a7955c75159e170191831814a57dee95cacde3644e4a2b1b"), looks := false }, kinds := [], alts := [], laidByText := true, laidKinds := [.data], laidTests := true, laidLooks := .later }
def ChainLinksCardSaid : Prop := Claim7.holds Tryd.pinned (.plain (OpenSpec.ofChange chainLinksSpec)) chainLinksCard

/-- THE TIED CARD OF 'baileylaw22.ChainParts'. -/
def chainPartsCard : Claim7 := { stood := { row := chainPartsRow, standIns := [], harness := (true, "d37dbcd96c06bbd0a7955c75159e170191831814a57dee95cacde3644e4a2b1b"), looks := false }, kinds := [], alts := [], laidByText := true, laidKinds := [.data], laidTests := true, laidLooks := .later }
def ChainPartsCardSaid : Prop := Claim7.holds Tryd.pinned (.plain (OpenSpec.ofChange chainPartsSpec)) chainPartsCard

/-- THE TIED CARD OF 'baileylaw22.ChainCodes'. -/
def chainCodesCard : Claim7 := { stood := { row := chainCodesRow, standIns := [], harness := (true, "d37dbcd96c06bbd0a7955c75159e170191831814a57dee95cacde3644e4a2b1b"), looks := false }, kinds := [], alts := [], laidByText := true, laidKinds := [.data], laidTests := true, laidLooks := .later }
def ChainCodesCardSaid : Prop := Claim7.holds Tryd.pinned (.plain (OpenSpec.ofChange chainCodesSpec)) chainCodesCard

/-- THE SECOND FORM's CARD OF 'baileylaw22.ChainLinks'. -/
def chainLinksUptoCard : Claim7 := { stood := { row := chainLinksUptoRow, standIns := [], harness := (true, "d37dbcd96c06bbd0a7955c75159e170191831814a57dee95cacde3644e4a2b1b"), looks := false }, kinds := [], alts := [], laidByText := true, laidKinds := [.data], laidTests := true, laidLooks := .later }
def ChainLinksUptoCardSaid : Prop := Claim7.holds Tryd.pinned (.plain (OpenSpec.upto chainLinksSpec)) chainLinksUptoCard

/-- THE SECOND FORM's CARD OF 'baileylaw22.ChainParts'. -/
def chainPartsUptoCard : Claim7 := { stood := { row := chainPartsUptoRow, standIns := [], harness := (true, "d37dbcd96c06bbd0a7955c75159e170191831814a57dee95cacde3644e4a2b1b"), looks := false }, kinds := [], alts := [], laidByText := true, laidKinds := [.data], laidTests := true, laidLooks := .later }
def ChainPartsUptoCardSaid : Prop := Claim7.holds Tryd.pinned (.plain (OpenSpec.upto chainPartsSpec)) chainPartsUptoCard

/-- THE SECOND FORM's CARD OF 'baileylaw22.ChainCodes'. -/
def chainCodesUptoCard : Claim7 := { stood := { row := chainCodesUptoRow, standIns := [], harness := (true, "d37dbcd96c06bbd0a7955c75159e170191831814a57dee95cacde3644e4a2b1b"), looks := false }, kinds := [], alts := [], laidByText := true, laidKinds := [.data], laidTests := true, laidLooks := .later }
def ChainCodesUptoCardSaid : Prop := Claim7.holds Tryd.pinned (.plain (OpenSpec.upto chainCodesSpec)) chainCodesUptoCard
end Rows
end Go.Proofs.YtnkpcolkhmphmaaDoor
