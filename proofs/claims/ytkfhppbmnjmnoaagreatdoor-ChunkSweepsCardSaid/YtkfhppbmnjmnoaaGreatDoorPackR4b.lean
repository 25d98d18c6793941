/- CONTRACTS of layer 2 (pack): the reference's reader of numbers. -/
import Derived.Test.YtkfhppbmnjmnoaaGreatDoorPackR
set_option linter.unusedSimpArgs false
set_option linter.unusedVariables false
namespace Go.Proofs.YtkfhppbmnjmnoaaGreatDoor.W
open Go.ChangeShapes Go.WideShapes Go.ChangeAt Go.RowKit
open Go.Proofs.YtkfhppbmnjmnoaaGreatDoor.P (mk lo hi enc tl gr up dec)


end Go.Proofs.YtkfhppbmnjmnoaaGreatDoor.W
