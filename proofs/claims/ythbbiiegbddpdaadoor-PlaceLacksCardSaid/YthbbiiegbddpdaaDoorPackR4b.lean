/- CONTRACTS of layer 2 (pack): the reference's reader of numbers. -/
import Derived.Test.YthbbiiegbddpdaaDoorPackR
set_option linter.unusedSimpArgs false
set_option linter.unusedVariables false
namespace Go.Proofs.YthbbiiegbddpdaaDoor.W
open Go.ChangeShapes Go.WideShapes Go.ChangeAt Go.RowKit
open Go.Proofs.YthbbiiegbddpdaaDoor.P (mk lo hi enc tl gr up dec)


end Go.Proofs.YthbbiiegbddpdaaDoor.W
