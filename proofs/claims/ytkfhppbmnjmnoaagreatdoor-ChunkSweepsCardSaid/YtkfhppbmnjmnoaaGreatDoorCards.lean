/-
  DERIVED. GIVEN WITH THE SEED: THE CARDS: each row of YtkfhppbmnjmnoaaGreatDoorRows.lean that lists a variable, with what it lists TIED to the program's text (the seventh form; the later family's looks); each row that meets fmt, with fmt's text TOLD by the authors' own Lean function (tested against real Go, not proved from fmt's source: count such statements apart). THE CARD IS WHAT COUNTS. Prove the row's statement (the work); the ties are given (YtkfhppbmnjmnoaaGreatDoorTie.lean); close each card by the builder's one call (the guide's Derived/Test/ToyasCard.lean, 'card_holds'). Laid BY PROGRAM, IN A SANDBOX (cutbox-door.mjs). By AI agents, Wed Nov 11 2026. No macro, syntax, notation, axiom, sorry.
-/
import Derived.Test.YtkfhppbmnjmnoaaGreatDoorRows
import GoSem.ClaimSeven
namespace Go.Proofs.YtkfhppbmnjmnoaaGreatDoor
namespace Rows

/-- THE TIED CARD OF 'baileylaw28.ChunkLives'. -/
def chunkLivesCard : Claim7 := { stood := { row := chunkLivesRow, standIns := [], harness := (true, "aee523e688991c5bf8b1d172588786ff774162c4913c268591a8b4d643189200"), looks := false }, kinds := [], alts := [], laidByText := true, laidKinds := [.data], laidTests := true, laidLooks := .later }
def ChunkLivesCardSaid : Prop := Claim7.holds Tryz.pinned (.plain (OpenSpec.ofChange chunkLivesSpec)) chunkLivesCard

/-- THE TIED CARD OF 'baileylaw28.ChunkGets'. -/
def chunkGetsCard : Claim7 := { stood := { row := chunkGetsRow, standIns := [], harness := (true, "aee523e688991c5bf8b1d172588786ff774162c4913c268591a8b4d643189200"), looks := false }, kinds := [], alts := [], laidByText := true, laidKinds := [.data], laidTests := true, laidLooks := .later }
def ChunkGetsCardSaid : Prop := Claim7.holds Tryz.pinned (.plain (OpenSpec.ofChange chunkGetsSpec)) chunkGetsCard

/-- THE TIED CARD OF 'baileylaw28.ChunkKeeps'. -/
def chunkKeepsCard : Claim7 := { stood := { row := chunkKeepsRow, standIns := [], harness := (true, "aee523e688991c5bf8b1d172588786ff774162c4913c268591a8b4d643189200"), looks := false }, kinds := [], alts := [], laidByText := true, laidKinds := [.data], laidTests := true, laidLooks := .later }
def ChunkKeepsCardSaid : Prop := Claim7.holds Tryz.pinned (.plain (OpenSpec.ofChange chunkKeepsSpec)) chunkKeepsCard

/-- THE TIED CARD OF 'baileylaw28.ChunkSweeps'. -/
def chunkSweepsCard : Claim7 := { stood := { row := chunkSweepsRow, standIns := [], harness := (true, "aee523e688991c5bf8b1d172588786ff774162c4913c268591a8b4d643189200"), looks := false }, kinds := [], alts := [], laidByText := true, laidKinds := [.data], laidTests := true, laidLooks := .later }
def ChunkSweepsCardSaid : Prop := Claim7.holds Tryz.pinned (.plain (OpenSpec.ofChange chunkSweepsSpec)) chunkSweepsCard

/-- THE SECOND FORM's CARD OF 'baileylaw28.ChunkLives'. -/
def chunkLivesUptoCard : Claim7 := { stood := { row := chunkLivesUptoRow, standIns := [], harness := (true, "aee523e688991c5bf8b1d172588786ff774162c4913c268591a8b4d643189200"), looks := false }, kinds := [], alts := [], laidByText := true, laidKinds := [.data], laidTests := true, laidLooks := .later }
def ChunkLivesUptoCardSaid : Prop := Claim7.holds Tryz.pinned (.plain (OpenSpec.upto chunkLivesSpec)) chunkLivesUptoCard

/-- THE SECOND FORM's CARD OF 'baileylaw28.ChunkGets'. -/
def chunkGetsUptoCard : Claim7 := { stood := { row := chunkGetsUptoRow, standIns := [], harness := (true, "aee523e688991c5bf8b1d172588786ff774162c4913c268591a8b4d643189200"), looks := false }, kinds := [], alts := [], laidByText := true, laidKinds := [.data], laidTests := true, laidLooks := .later }
def ChunkGetsUptoCardSaid : Prop := Claim7.holds Tryz.pinned (.plain (OpenSpec.upto chunkGetsSpec)) chunkGetsUptoCard

/-- THE SECOND FORM's CARD OF 'baileylaw28.ChunkKeeps'. -/
def chunkKeepsUptoCard : Claim7 := { stood := { row := chunkKeepsUptoRow, standIns := [], harness := (true, "aee523e688991c5bf8b1d172588786ff774162c4913c268591a8b4d643189200"), looks := false }, kinds := [], alts := [], laidByText := true, laidKinds := [.data], laidTests := true, laidLooks := .later }
def ChunkKeepsUptoCardSaid : Prop := Claim7.holds Tryz.pinned (.plain (OpenSpec.upto chunkKeepsSpec)) chunkKeepsUptoCard

/-- THE SECOND FORM's CARD OF 'baileylaw28.ChunkSweeps'. -/
def chunkSweepsUptoCard : Claim7 := { stood := { row := chunkSweepsUptoRow, standIns := [], harness := (true, "aee523e688991c5bf8b1d172588786ff774162c4913c268591a8b4d643189200"), looks := false }, kinds := [], alts := [], laidByText := true, laidKinds := [.data], laidTests := true, laidLooks := .later }
def ChunkSweepsUptoCardSaid : Prop := Claim7.holds Tryz.pinned (.plain (OpenSpec.upto chunkSweepsSpec)) chunkSweepsUptoCard
end Rows
end Go.Proofs.YtkfhppbmnjmnoaaGreatDoor
