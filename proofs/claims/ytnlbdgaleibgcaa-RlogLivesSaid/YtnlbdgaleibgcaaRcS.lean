/- LAYER 11 (record): Same of both. -/
import Derived.Test.YtnlbdgaleibgcaaRcO
set_option linter.unusedSimpArgs false
set_option linter.unusedVariables false
namespace Go.Proofs.Ytnlbdgaleibgcaa.W
open Go Go.ChangeShapes Go.WideShapes Go.ChangeAt Go.RowKit
open Go.Proofs.Ytnlbdgaleibgcaa.P (enc dec)


end Go.Proofs.Ytnlbdgaleibgcaa.W
