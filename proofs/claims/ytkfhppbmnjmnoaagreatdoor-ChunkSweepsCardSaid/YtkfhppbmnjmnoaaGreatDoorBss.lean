/- A SLICE OF SLICES OF BYTES that came in. -/
import Derived.Test.YtkfhppbmnjmnoaaGreatDoorMem
import Derived.Deep.Matrix
set_option linter.unusedSimpArgs false
set_option linter.unusedVariables false
namespace Go.Proofs.YtkfhppbmnjmnoaaGreatDoor.W
open Go Go.ChangeShapes Go.WideShapes Go.ChangeAt Go.RowKit

/-- A slice of slices of bytes: row r reads as the bytes X r. -/
structure Bss (w : World) (a : Option Addr) (len cap : Nat) (X : Nat → List UInt8) : Prop where
  hmax : len ≤ 9223372036854775807
  hle : len ≤ cap
  hcells : len = 0 ∨ ∃ b off, a = some ⟨b, off, none⟩ ∧ b < w.heap.size ∧ ∀ r, r < len → ∃ A n c, w.cell? ⟨b, off + r, none⟩ = some (.slice A n c) ∧ Rd w A n c (X r)

end Go.Proofs.YtkfhppbmnjmnoaaGreatDoor.W
